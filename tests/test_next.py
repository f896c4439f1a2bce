"""Point 10: next."""

import unittest

from tests.helper import DAY, EVER, FAR, PLAIN, ask, book, cut, end, last, next_time, once, room, skip, wait


def coming(*line, moments):
    """What next answers from each moment on, in room 0."""
    return ask(*line, *[next_time(0, moment) for moment in moments])[len(line):]


class Next(unittest.TestCase):
    def test_nothing_is_booked(self):
        self.assertEqual(coming(room(5), moments=(0, FAR)), [[-6], [-6]])

    def test_from_this_moment_on(self):
        found = coming(room(5), book(7, 0, once(100, 60)), moments=(0, 99, 100, 101, 159, 160, FAR))
        self.assertEqual(found, [[100, 0], [100, 0], [100, 0], [-6], [-6], [-6], [-6]])

    def test_it_begins_at_the_first_and_last_moments(self):
        found = coming(room(5), book(7, 0, once(0, 60)), book(7, 0, once(1000000, 60)),
                       moments=(0, 1, 1000000, 1000001))
        self.assertEqual(found, [[0, 0], [1000000, 1], [1000000, 1], [-6]])

    def test_what_comes_again(self):
        found = coming(room(5), book(1, 0, (100, 60, 9, 3)),
                       moments=(0, 101, 9 * DAY + 99, 9 * DAY + 100, 9 * DAY + 101, 18 * DAY + 100, 18 * DAY + 101))
        self.assertEqual(found, [[100, 0], [9 * DAY + 100, 0], [9 * DAY + 100, 0], [9 * DAY + 100, 0],
                                 [18 * DAY + 100, 0], [18 * DAY + 100, 0], [-6]])

    def test_behind_the_last_of_500_times(self):
        found = coming(room(5), book(1, 0, (0, 60, 1, 500)), moments=(498 * DAY + 1, 499 * DAY, 499 * DAY + 1, FAR))
        self.assertEqual(found, [[499 * DAY, 0], [499 * DAY, 0], [-6], [-6]])

    def test_far_out_for_ever(self):
        found = coming(room(5), book(1, 0, EVER), moments=(FAR, 2777 * DAY, 2777 * DAY + 1))
        self.assertEqual(found, [[2778 * DAY, 0], [2777 * DAY, 0], [2778 * DAY, 0]])
        found = coming(room(5), book(1, 0, (1000000, 1, 60, 0)), moments=(FAR, 1000000 + 34 * 60 * DAY))
        self.assertEqual(found, [[1000000 + 35 * 60 * DAY, 0], [1000000 + 34 * 60 * DAY, 0]])

    def test_a_time_given_up_does_not_begin(self):
        found = coming(room(5), book(1, 0, PLAIN), skip(0, 0), skip(0, 2),
                       moments=(0, 1, 7 * DAY, 7 * DAY + 1, 14 * DAY))
        self.assertEqual(found, [[7 * DAY, 0], [7 * DAY, 0], [7 * DAY, 0], [21 * DAY, 0], [21 * DAY, 0]])

    def test_five_given_up_one_behind_another(self):
        five = [skip(0, k) for k in (3, 1, 2, 4, 5)]
        found = coming(room(5), book(1, 0, PLAIN), *five, moments=(0, 1, 7 * DAY, 35 * DAY, 42 * DAY, 42 * DAY + 1))
        self.assertEqual(found, [[0, 0], [42 * DAY, 0], [42 * DAY, 0], [42 * DAY, 0], [42 * DAY, 0], [49 * DAY, 0]])
        found = coming(room(5), book(1, 0, (0, 60, 7, 6)), *five, moments=(0, 1))
        self.assertEqual(found, [[0, 0], [-6]])

    def test_all_that_there_is_was_given_up(self):
        self.assertEqual(last(room(5), book(1, 0, once(5, 5)), skip(0, 0), next_time(0, 0)), [-6])
        self.assertEqual(last(room(5), book(1, 0, (5, 5, 1, 2)), skip(0, 1), skip(0, 0), next_time(0, 0)), [-6])

    def test_the_first_of_several(self):
        found = coming(room(5), book(1, 0, (500, 5, 2, 0)), book(2, 0, (DAY + 400, 5, 3, 0)), book(3, 0, once(DAY, 5)),
                       moments=(0, 500, 501, DAY + 1, DAY + 401, 4 * DAY, 4 * DAY + 401))
        self.assertEqual(found, [[500, 0], [500, 0], [DAY, 2], [DAY + 400, 1], [2 * DAY + 500, 0], [4 * DAY + 400, 1],
                                 [4 * DAY + 500, 0]])

    def test_where_two_times_touch(self):
        found = coming(room(5), book(1, 0, once(60, 60)), book(2, 0, once(0, 60)), moments=(0, 1, 59, 60, 61))
        self.assertEqual(found, [[0, 1], [60, 0], [60, 0], [60, 0], [-6]])

    def test_other_rooms_and_what_waits_do_not_count(self):
        found = ask(room(5), room(5), book(1, 0, once(50, 60)), wait(2, 0, (30, 60, 1, 0)), next_time(1, 0),
                    next_time(0, 0), next_time(0, 51), end(0), next_time(0, 0), next_time(0, 51))
        self.assertEqual(found[4:], [[-6], [50, 0], [-6], [1, 1], [30, 1], [30 + DAY, 1]])

    def test_behind_end_and_cut(self):
        found = ask(room(5), book(1, 0, EVER), cut(0, 2), next_time(0, DAY), next_time(0, DAY + 1), end(0),
                    next_time(0, 0))
        self.assertEqual(found[3:], [[DAY, 0], [-6], [0], [-6]])

    def test_no_such_room(self):
        self.assertEqual(ask(next_time(0, 0), next_time(20, FAR)), [[-3], [-3]])
        self.assertEqual(ask(room(5), book(1, 0, EVER), next_time(1, 0), next_time(0, 0))[2:], [[-3], [0, 0]])
