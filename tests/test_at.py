"""Point 9: at."""

import unittest

from tests.helper import DAY, EVER, FAR, PLAIN, ask, at, book, cut, end, last, once, room, skip, wait


def has(*line, moments):
    """What at answers at each moment, in room 0."""
    return ask(*line, *[at(0, moment) for moment in moments])[len(line):]


class At(unittest.TestCase):
    def test_nothing_is_booked(self):
        self.assertEqual(has(room(5), moments=(0, 1, DAY, FAR)), [[0]] * 4)

    def test_first_and_last_minute_and_beside_them(self):
        found = has(room(5), book(7, 0, once(100, 60)), moments=(0, 99, 100, 101, 159, 160, 100 + DAY, FAR))
        self.assertEqual(found, [[0], [0], [1, 0, 7], [1, 0, 7], [1, 0, 7], [0], [0], [0]])

    def test_one_minute(self):
        found = has(room(5), book(7, 0, once(1000000, 1)), moments=(999999, 1000000, 1000001))
        self.assertEqual(found, [[0], [1, 0, 7], [0]])

    def test_a_whole_day_once(self):
        found = has(room(5), book(0, 0, once(5, DAY)), moments=(4, 5, DAY, DAY + 4, DAY + 5, 2 * DAY + 4))
        self.assertEqual(found, [[0], [1, 0, 0], [1, 0, 0], [1, 0, 0], [0], [0]])

    def test_a_time_over_midnight(self):
        found = has(room(5), book(3, 0, (DAY - 10, 20, 7, 2)),
                    moments=(DAY - 11, DAY - 10, DAY, DAY + 9, DAY + 10, 8 * DAY + 9, 8 * DAY + 10, 15 * DAY))
        self.assertEqual(found, [[0], [1, 0, 3], [1, 0, 3], [1, 0, 3], [0], [1, 0, 3], [0], [0]])

    def test_what_comes_again(self):
        when = (100, 60, 9, 3)
        for k in (0, 1, 2):
            with self.subTest(k):
                begin = 100 + 9 * DAY * k
                found = has(room(5), book(99, 0, when),
                            moments=(begin - 1, begin, begin + 59, begin + 60, begin + DAY, begin + 8 * DAY))
                self.assertEqual(found, [[0], [1, 0, 99], [1, 0, 99], [0], [0], [0]])

    def test_behind_the_last_time(self):
        found = has(room(5), book(1, 0, (100, 60, 9, 3)), book(2, 0, (0, 100, 1, 500)),
                    moments=(100 + 27 * DAY, 100 + 36 * DAY, 499 * DAY + 99, 500 * DAY, FAR))
        self.assertEqual(found, [[0], [0], [1, 1, 2], [0], [0]])

    def test_far_out_for_ever(self):
        found = has(room(5), book(4, 0, EVER), moments=(0, DAY - 1, DAY, 1000001, FAR - 1, FAR))
        self.assertEqual(found, [[1, 0, 4]] * 6)
        # 4000000 is 2777 days and 1120 minutes, and 2777 is 7 times 396, and 5.
        found = has(room(5), book(4, 0, (5 * DAY + 1100, 21, 7, 0)),
                    moments=(FAR, FAR - 20, FAR - 21, FAR - DAY, FAR - 7 * DAY, FAR - 7 * DAY + 1))
        self.assertEqual(found, [[1, 0, 4], [1, 0, 4], [0], [0], [1, 0, 4], [0]])

    def test_a_time_given_up(self):
        found = has(room(5), book(4, 0, EVER), skip(0, 2), skip(0, 2777),
                    moments=(2 * DAY - 1, 2 * DAY, 3 * DAY - 1, 3 * DAY, 2777 * DAY - 1, 2777 * DAY, FAR))
        self.assertEqual(found, [[1, 0, 4], [0], [0], [1, 0, 4], [1, 0, 4], [0], [0]])
        self.assertEqual(last(room(5), book(4, 0, once(0, 60)), skip(0, 0), at(0, 0)), [0])

    def test_another_has_what_was_given_up(self):
        found = has(room(5), book(4, 0, EVER), wait(5, 0, once(DAY + 10, 5)), skip(0, 1),
                    moments=(DAY - 1, DAY + 9, DAY + 10, DAY + 14, DAY + 15, 2 * DAY))
        self.assertEqual(found, [[1, 0, 4], [0], [1, 1, 5], [1, 1, 5], [0], [1, 0, 4]])

    def test_where_two_times_touch(self):
        found = has(room(5), book(8, 0, once(60, 60)), book(6, 0, once(0, 60)), book(7, 0, (120, 60, 1, 0)),
                    moments=(0, 59, 60, 119, 120, 179, 180))
        self.assertEqual(found, [[1, 1, 6], [1, 1, 6], [1, 0, 8], [1, 0, 8], [1, 2, 7], [1, 2, 7], [0]])

    def test_the_number_is_not_the_place(self):
        found = ask(room(5), room(5), book(1, 0, PLAIN), book(2, 1, PLAIN), end(0), book(3, 0, PLAIN), at(0, 0),
                    at(1, 0))
        self.assertEqual(found[6:], [[1, 2, 3], [1, 1, 2]])

    def test_what_waits_has_nothing(self):
        found = ask(room(5), book(1, 0, once(0, 60)), wait(2, 0, once(30, 60)), at(0, 30), at(0, 60), end(0), at(0, 0),
                    at(0, 30), at(0, 89), at(0, 90))
        self.assertEqual(found[3:], [[1, 0, 1], [0], [1, 1], [0], [1, 1, 2], [1, 1, 2], [0]])

    def test_behind_end_and_cut(self):
        found = ask(room(5), book(1, 0, EVER), cut(0, 1), at(0, DAY - 1), at(0, DAY), end(0), at(0, 0))
        self.assertEqual(found[3:], [[1, 0, 1], [0], [0], [0]])

    def test_no_such_room(self):
        self.assertEqual(ask(at(0, 0), at(20, FAR)), [[-3], [-3]])
        self.assertEqual(ask(room(5), book(1, 0, EVER), at(1, 0), at(20, 0), at(0, 0))[2:], [[-3], [-3], [1, 0, 1]])
