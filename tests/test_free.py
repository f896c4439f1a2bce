"""Point 11: free."""

import unittest

from tests.helper import DAY, EVER, FAR, PLAIN, ask, book, cut, end, free, last, once, room, skip, wait


def minutes(*line, moments):
    """What free answers from each moment on, in room 0."""
    return ask(*line, *[free(0, moment) for moment in moments])[len(line):]


class Free(unittest.TestCase):
    def test_nothing_is_booked(self):
        self.assertEqual(minutes(room(5), moments=(0, FAR)), [[-6], [-6]])

    def test_first_and_last_minute_and_beside_them(self):
        found = minutes(room(5), book(7, 0, once(100, 60)), moments=(0, 99, 100, 101, 159, 160, FAR))
        self.assertEqual(found, [[100], [1], [0], [0], [0], [-6], [-6]])

    def test_what_comes_again(self):
        found = minutes(room(5), book(1, 0, (100, 60, 9, 3)),
                        moments=(0, 100, 159, 160, 9 * DAY + 99, 9 * DAY + 100, 9 * DAY + 160, 18 * DAY + 159,
                                 18 * DAY + 160))
        self.assertEqual(found, [[100], [0], [0], [9 * DAY - 60], [1], [0], [9 * DAY - 60], [0], [-6]])

    def test_behind_the_last_of_500_times(self):
        found = minutes(room(5), book(1, 0, (0, 60, 1, 500)),
                        moments=(499 * DAY - 1, 499 * DAY + 59, 499 * DAY + 60, FAR))
        self.assertEqual(found, [[1], [0], [-6], [-6]])

    def test_far_out_for_ever(self):
        self.assertEqual(minutes(room(5), book(1, 0, EVER), moments=(0, 1439, 1440, FAR)), [[0]] * 4)
        found = minutes(room(5), book(1, 0, (0, 1120, 1, 0)), moments=(FAR - 1, FAR, 2778 * DAY - 1, 2778 * DAY))
        self.assertEqual(found, [[0], [320], [1], [0]])
        found = minutes(room(5), book(1, 0, (1000000, 1, 60, 0)), moments=(FAR, 0))
        self.assertEqual(found, [[1000000 + 35 * 60 * DAY - FAR], [1000000]])

    def test_a_time_given_up_is_free(self):
        found = minutes(room(5), book(1, 0, PLAIN), skip(0, 1),
                        moments=(59, 60, 7 * DAY - 1, 7 * DAY, 7 * DAY + 59, 7 * DAY + 60, 14 * DAY))
        self.assertEqual(found, [[0], [14 * DAY - 60], [7 * DAY + 1], [7 * DAY], [7 * DAY - 59], [7 * DAY - 60], [0]])

    def test_the_last_time_was_given_up(self):
        found = minutes(room(5), book(1, 0, (0, 60, 7, 2)), skip(0, 1), moments=(0, 59, 60, 7 * DAY))
        self.assertEqual(found, [[0], [0], [-6], [-6]])
        self.assertEqual(last(room(5), book(1, 0, once(5, 5)), skip(0, 0), free(0, 0)), [-6])

    def test_where_two_times_touch(self):
        found = minutes(room(5), book(1, 0, once(60, 60)), book(2, 0, once(0, 60)), book(3, 0, once(121, 5)),
                        moments=(0, 59, 60, 119, 120, 121, 125, 126))
        self.assertEqual(found, [[0], [0], [0], [0], [1], [0], [0], [-6]])

    def test_the_next_of_several(self):
        found = minutes(room(5), book(1, 0, (500, 5, 2, 0)), book(2, 0, (DAY + 400, 5, 3, 0)),
                        moments=(0, 505, DAY + 405))
        self.assertEqual(found, [[500], [DAY - 105], [DAY + 95]])

    def test_other_rooms_and_what_waits_do_not_count(self):
        found = ask(room(5), room(5), book(1, 0, once(50, 60)), wait(2, 0, once(30, 60)), free(1, 0), free(1, 50),
                    free(0, 0), free(0, 30), end(0), free(0, 0), free(0, 30), free(0, 90))
        self.assertEqual(found[4:], [[-6], [-6], [50], [20], [1, 1], [30], [0], [-6]])

    def test_behind_end_and_cut(self):
        found = ask(room(5), book(1, 0, (0, 60, 1, 0)), free(0, DAY + 60), cut(0, 2), free(0, DAY + 59),
                    free(0, DAY + 60), end(0), free(0, 0))
        self.assertEqual(found[2:], [[DAY - 60], [0], [0], [-6], [0], [-6]])

    def test_no_such_room(self):
        self.assertEqual(ask(free(0, 0), free(20, FAR)), [[-3], [-3]])
        self.assertEqual(ask(room(5), book(1, 0, once(5, 5)), free(1, 0), free(0, 0))[2:], [[-3], [5]])
