"""Point 8: cut."""

import unittest

from tests.helper import (
    DAY, EVER, FAR, PLAIN, ask, at, book, cut, end, last, next_time, once, queue, room, skip, tell, wait, would,
)


def cuts(when, *many):
    """The answers of cutting one that is booked so, one cut behind another."""
    return ask(room(5), book(1, 0, when), *[cut(0, k) for k in many])[2:]


class Cut(unittest.TestCase):
    def test_it_is_so_many_times_from_now_on(self):
        found = ask(room(5), book(1, 0, (0, 60, 1, 10)), cut(0, 3), at(0, 2 * DAY), at(0, 3 * DAY),
                    next_time(0, 2 * DAY + 1), would(0, once(2 * DAY, 5)), would(0, (3 * DAY, 60, 1, 0)))
        self.assertEqual(found[2:], [[0], [1, 0, 1], [0], [-6], [0, 0, 2 * DAY], [1]])

    def test_so_many_in_all_wherever_it_begins(self):
        found = ask(room(5), book(1, 0, (999999, 60, 60, 0)), cut(0, 2), at(0, 999999 + 60 * DAY),
                    at(0, 999999 + 120 * DAY), next_time(0, 999999 + 60 * DAY + 1))
        self.assertEqual(found[2:], [[0], [1, 0, 1], [0], [-6]])

    def test_a_plan_for_ever(self):
        found = ask(room(5), book(1, 0, EVER), cut(0, 500), at(0, 500 * DAY - 1), at(0, 500 * DAY), at(0, FAR),
                    book(2, 0, (500 * DAY, 1440, 1, 0)), cut(0, 500), cut(0, 499), cut(1, 500), tell(1))
        self.assertEqual(found[2:], [[0], [1, 0, 1], [0], [0], [1], [-2], [0], [0],
                                     [1, 2, 0, 500 * DAY, 1440, 1, 500, 0]])

    def test_the_bounds_1_and_500(self):
        for when in ((0, 60, 7, 0), (0, 60, 60, 0), (1000000, 1440, 1, 0)):
            with self.subTest(when):
                self.assertEqual(cuts(when, 501, 20000, 0, 500, 0, 499, 1, 0, 1),
                                 [[-2], [-2], [-2], [0], [-2], [0], [0], [-2], [-2]])
        self.assertEqual(cuts(PLAIN, 1), [[0]])
        self.assertEqual(cuts((0, 60, 7, 500), 500, 501, 499), [[-2], [-2], [0]])
        self.assertEqual(cuts((0, 60, 7, 2), 0, 3, 2, 1, 1), [[-2], [-2], [-2], [0], [-2]])

    def test_it_is_not_more_times_now(self):
        self.assertEqual(cuts((0, 60, 7, 20), 21, 20, 19, 19, 20, 18), [[-2], [-2], [0], [-2], [-2], [0]])
        self.assertEqual(cuts((0, 60, 7, 1), 1, 2, 0, 500), [[-2]] * 4)

    def test_it_does_not_come_again(self):
        self.assertEqual(cuts(once(0, 60), 0, 1, 2, 500, 501, 20000), [[-2]] * 6)

    def test_none_that_is_booked(self):
        self.assertEqual(ask(cut(0, 1)), [[-4]])
        self.assertEqual(ask(room(5), book(1, 0, EVER), cut(1, 1), cut(99, 1))[2:], [[-4], [-4]])
        self.assertEqual(last(room(5), book(1, 0, EVER), end(0), cut(0, 1)), [-4])

    def test_what_waits_is_not_cut(self):
        found = ask(room(5), book(1, 0, EVER), wait(2, 0, EVER), cut(1, 1), tell(1), end(0), tell(1), cut(1, 1))
        self.assertEqual(found[3:], [[-4], [0, 2, 0, *EVER, 0], [1, 1], [1, 2, 0, *EVER, 0], [0]])

    def test_not_booked_ahead_of_no_such_times(self):
        self.assertEqual(ask(cut(0, 0), cut(0, 501), cut(99, 20000)), [[-4]] * 3)
        self.assertEqual(ask(room(5), book(1, 0, EVER), wait(1, 0, once(0, 5)), cut(1, 1), cut(1, 0))[3:],
                         [[-4], [-4]])

    def test_nothing_changes_by_a_refused_cut(self):
        line = [room(5), book(1, 0, (0, 60, 1, 7)), book(2, 0, once(60, 60)), wait(3, 0, (0, 30, 1, 8))]
        behind = [tell(0), tell(1), tell(2), queue(), next_time(0, 6 * DAY), next_time(0, 6 * DAY + 1), end(0)]
        expected = ask(*line, *behind)[4:]
        self.assertEqual(expected, [[1, 1, 0, 0, 60, 1, 7, 0], [1, 2, 0, 60, 60, 0, 1, 0], [0, 3, 0, 0, 30, 1, 8, 0],
                                    [1, 2], [6 * DAY, 0], [-6], [1, 2]])
        for call, answer in ((cut(0, 7), -2), (cut(0, 0), -2), (cut(0, 501), -2), (cut(1, 1), -2), (cut(2, 1), -4),
                             (cut(3, 1), -4)):
            with self.subTest(call):
                self.assertEqual(ask(*line, call, *behind)[4:], [[answer], *expected])


class CutAndSkip(unittest.TestCase):
    def test_times_given_up_stay_so(self):
        found = ask(room(5), book(1, 0, EVER), skip(0, 1), cut(0, 3), at(0, 0), at(0, DAY), at(0, 2 * DAY),
                    at(0, 3 * DAY), skip(0, 1), would(0, once(DAY, DAY)))
        self.assertEqual(found[2:], [[0], [0], [1, 0, 1], [0], [1, 0, 1], [0], [-2], [1]])

    def test_so_many_in_all_with_those_given_up(self):
        found = ask(room(5), book(1, 0, PLAIN), skip(0, 0), skip(0, 1), cut(0, 2), next_time(0, 0), would(0, EVER),
                    tell(0), end(0))
        self.assertEqual(found[4:], [[0], [-6], [1], [1, 1, 0, 0, 60, 7, 2, 2, 0, 1], [0]])

    def test_a_cut_at_a_time_given_up(self):
        found = ask(room(5), book(1, 0, EVER), skip(0, 2), cut(0, 3), next_time(0, DAY), next_time(0, DAY + 1),
                    cut(0, 2), next_time(0, DAY), next_time(0, DAY + 1))
        self.assertEqual(found[3:], [[0], [DAY, 0], [-6], [0], [DAY, 0], [-6]])

    def test_what_is_cut_off_can_not_be_given_up(self):
        found = ask(room(5), book(1, 0, EVER), cut(0, 3), skip(0, 3), skip(0, 4), skip(0, 9999), skip(0, 2))
        self.assertEqual(found[2:], [[0], [-2], [-2], [-2], [0]])

    def test_what_was_given_up_has_been_also_behind_a_cut(self):
        line = [room(5), book(1, 0, PLAIN), *[skip(0, 10 + k) for k in range(5)], cut(0, 5)]
        self.assertEqual(ask(*line, skip(0, 10), skip(0, 0), tell(0))[-3:],
                         [[-2], [-5], [1, 1, 0, 0, 60, 7, 5, 5, 10, 11, 12, 13, 14]])


class ServedByCut(unittest.TestCase):
    def test_who_waits_is_served(self):
        found = ask(room(5), book(1, 0, EVER), wait(2, 0, once(2 * DAY, 60)), wait(3, 0, once(2 * DAY + 60, 60)),
                    wait(4, 0, once(2 * DAY + 30, 60)), wait(5, 0, once(DAY, 60)), cut(0, 3), cut(0, 2), queue(),
                    at(0, 2 * DAY + 60), cut(0, 1), queue())
        self.assertEqual(found[6:], [[0], [2, 1, 2], [2, 3, 4], [1, 2, 3], [1, 4], [1, 3]])

    def test_they_met_for_ever(self):
        found = ask(room(5), book(1, 0, (0, 60, 59, 0)), wait(2, 0, (DAY, 60, 60, 0)),
                    *[skip(0, 59 + 60 * k) for k in range(5)], cut(0, 360), cut(0, 359))
        # They met at the times 59, 119 and on; the first that wasn't given up is 359, the last one of 360 times.
        self.assertEqual(found[2:], [[1, 0]] + [[0]] * 5 + [[0], [1, 1]])

    def test_one_that_still_meets_waits_on(self):
        found = ask(room(5), book(1, 0, (0, 60, 59, 0)), wait(2, 0, (DAY, 60, 60, 0)), cut(0, 120), cut(0, 60),
                    cut(0, 59), queue(), cut(1, 1))
        self.assertEqual(found[3:], [[0], [0], [1, 1], [0], [0]])

    def test_a_refused_cut_serves_none(self):
        found = ask(room(5), book(1, 0, (0, 60, 1, 2)), wait(2, 0, once(DAY, 60)), cut(0, 2), cut(0, 0), cut(1, 1),
                    queue(), cut(0, 1), queue())
        self.assertEqual(found[3:], [[-2], [-2], [-4], [1, 1], [1, 1], [0]])

    def test_only_in_its_room(self):
        found = ask(room(5), room(5), book(1, 0, EVER), book(1, 1, EVER), wait(2, 1, once(DAY, 5)),
                    wait(2, 0, once(DAY, 5)), cut(0, 1), cut(1, 1))
        self.assertEqual(found[6:], [[1, 3], [1, 2]])
