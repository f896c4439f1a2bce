"""Point 12: used."""

import unittest

from tests.helper import DAY, EVER, FAR, PLAIN, ask, at, book, cut, end, once, room, skip, used, wait

MOST = 200000


def minutes(*line, stretches):
    """What used answers over each stretch, in room 0."""
    return ask(*line, *[used(0, moment, until) for moment, until in stretches])[len(line):]


class Used(unittest.TestCase):
    def test_nothing_is_booked(self):
        found = minutes(room(5), stretches=((0, 0), (0, 1), (0, MOST), (FAR, FAR), (FAR - MOST, FAR)))
        self.assertEqual(found, [[0]] * 5)

    def test_an_empty_stretch(self):
        found = minutes(room(5), book(1, 0, EVER),
                        stretches=((0, 0), (1, 1), (DAY - 1, DAY - 1), (DAY, DAY), (FAR, FAR)))
        self.assertEqual(found, [[0]] * 5)

    def test_first_and_last_minute_and_beside_them(self):
        found = minutes(room(5), book(1, 0, once(100, 60)),
                        stretches=((0, 100), (0, 101), (99, 101), (100, 101), (100, 160), (100, 161), (99, 161),
                                   (159, 160), (159, 161), (160, 161), (160, 200), (110, 120), (0, MOST)))
        self.assertEqual(found, [[0], [1], [1], [1], [60], [60], [60], [1], [1], [0], [0], [10], [60]])

    def test_what_comes_again(self):
        found = minutes(room(5), book(1, 0, (100, 60, 9, 3)),
                        stretches=((0, MOST), (130, 9 * DAY + 130), (160, 9 * DAY + 100), (160, 18 * DAY + 101),
                                   (9 * DAY + 159, 18 * DAY + 160), (18 * DAY + 159, 30 * DAY),
                                   (18 * DAY + 160, 60 * DAY)))
        self.assertEqual(found, [[180], [60], [0], [61], [61], [1], [0]])

    def test_a_time_that_began_ahead_of_the_stretch(self):
        found = minutes(room(5), book(1, 0, (DAY - 1, DAY, 2, 0)),
                        stretches=((DAY, DAY + 1), (2 * DAY - 2, 2 * DAY), (2 * DAY - 1, 3 * DAY - 1),
                                   (2 * DAY - 2, 3 * DAY), (0, 2 * DAY)))
        self.assertEqual(found, [[1], [1], [0], [2], [DAY]])

    def test_behind_the_last_time(self):
        found = minutes(room(5), book(1, 0, (0, 60, 1, 500)), book(2, 0, once(60, 60)),
                        stretches=((499 * DAY, 510 * DAY), (499 * DAY + 59, 500 * DAY + 60), (500 * DAY, 510 * DAY),
                                   (DAY + 60, 2 * DAY), (FAR - MOST, FAR)))
        self.assertEqual(found, [[60], [1], [0], [0], [0]])

    def test_200000_minutes_and_one_more(self):
        found = minutes(room(5), book(1, 0, EVER),
                        stretches=((0, MOST), (0, MOST + 1), (5, MOST + 5), (5, MOST + 6), (FAR - MOST, FAR),
                                   (FAR - MOST - 1, FAR), (0, FAR)))
        self.assertEqual(found, [[MOST], [-1], [MOST], [-1], [MOST], [-1], [-1]])

    def test_the_second_is_below_the_first(self):
        found = minutes(room(5), book(1, 0, EVER), stretches=((1, 0), (FAR, 0), (FAR, FAR - 1), (5, 4), (4, 5), (5, 5)))
        self.assertEqual(found, [[-1], [-1], [-1], [-1], [1], [0]])

    def test_far_out_for_ever(self):
        found = minutes(room(5), book(1, 0, (0, 60, 1, 0)),
                        stretches=((2777 * DAY, FAR), (2777 * DAY + 59, FAR), (2777 * DAY + 60, FAR),
                                   (2700 * DAY, 2777 * DAY), (FAR - MOST, FAR)))
        self.assertEqual(found, [[60], [1], [0], [77 * 60], [139 * 60]])

    def test_times_given_up_are_not_had(self):
        found = minutes(room(5), book(1, 0, (0, 60, 1, 0)), skip(0, 1), skip(0, 3), skip(0, 2777),
                        stretches=((0, 5 * DAY), (DAY, DAY + 60), (DAY + 30, 2 * DAY + 30), (3 * DAY, 4 * DAY),
                                   (2776 * DAY, FAR)))
        self.assertEqual(found, [[180], [0], [30], [0], [60]])
        self.assertEqual(ask(room(5), book(1, 0, once(0, 60)), skip(0, 0), used(0, 0, DAY))[3], [0])

    def test_where_two_times_touch(self):
        found = minutes(room(5), book(1, 0, once(60, 60)), book(2, 0, once(0, 60)), book(3, 0, (DAY, 10, 1, 0)),
                        stretches=((59, 61), (0, 120), (0, 121), (119, 121), (30, 90), (0, 2 * DAY + 5)))
        self.assertEqual(found, [[2], [120], [120], [1], [60], [135]])

    def test_full_days_touch_one_another(self):
        found = minutes(room(5), book(1, 0, (0, DAY, 2, 0)), book(2, 0, (DAY, DAY, 2, 0)), skip(1, 1),
                        stretches=((0, 3 * DAY), (3 * DAY - 1, 4 * DAY + 1), (5, MOST + 5)))
        self.assertEqual(found, [[3 * DAY], [2], [MOST - DAY]])

    def test_other_rooms_and_what_waits_do_not_count(self):
        found = ask(room(5), room(5), book(1, 0, once(50, 60)), wait(2, 0, once(30, 70)), used(1, 0, DAY),
                    used(0, 0, DAY), end(0), used(0, 0, DAY))
        self.assertEqual(found[4:], [[0], [60], [1, 1], [70]])

    def test_behind_end_and_cut(self):
        found = ask(room(5), book(1, 0, PLAIN), used(0, 0, 35 * DAY), cut(0, 2), used(0, 0, 35 * DAY), end(0),
                    used(0, 0, 35 * DAY))
        self.assertEqual(found[2:], [[300], [0], [120], [0], [0]])

    def test_minute_by_minute(self):
        line = [room(5), book(1, 0, (3, 7, 1, 0)), book(2, 0, (13, 9, 1, 0)), book(3, 0, (22, 1, 1, 0)), skip(1, 2)]
        for begin in (0, 2 * DAY, 2777 * DAY):
            had = [answer[0] for answer in ask(*line, *[at(0, begin + k) for k in range(30)])[len(line):]]
            for k in range(30):
                found = minutes(*line, stretches=[(begin + k, begin + until) for until in range(k, 30)])
                self.assertEqual(found, [[sum(had[k:until])] for until in range(k, 30)])

    def test_no_such_room_ahead_of_all_else(self):
        self.assertEqual(ask(used(0, 0, 0), used(20, 5, 4), used(20, 0, FAR)), [[-3]] * 3)
        self.assertEqual(ask(room(5), used(1, 5, 4), used(1, 0, MOST + 1), used(0, 5, 4))[1:], [[-3], [-3], [-1]])
