"""Point 7: skip."""

import unittest

from tests.helper import DAY, EVER, PLAIN, ask, book, end, last, once, room, skip, wait, would


def skips(when, *which):
    """The answers of giving up these times of one that is booked so."""
    return ask(room(5), book(1, 0, when), *[skip(0, k) for k in which])[2:]


class Skip(unittest.TestCase):
    def test_that_time_has_been_given_up(self):
        found = ask(room(5), book(1, 0, EVER), skip(0, 2), would(0, once(2 * DAY, DAY)),
                    would(0, once(2 * DAY - 1, 1)), would(0, once(3 * DAY, 1)), would(0, once(2 * DAY - 1, 2)))
        self.assertEqual(found[2:], [[0], [1], [0, 0, 2 * DAY - 1], [0, 0, 3 * DAY], [0, 0, 2 * DAY - 1]])

    def test_it_stays_booked_when_its_one_time_is_given_up(self):
        found = ask(room(5), book(1, 0, once(0, 60)), skip(0, 0), would(0, EVER), skip(0, 0), end(0), end(0))
        self.assertEqual(found[2:], [[0], [1], [-2], [0], [-4]])

    def test_none_that_is_booked(self):
        self.assertEqual(ask(skip(0, 0)), [[-4]])
        self.assertEqual(ask(room(5), book(1, 0, EVER), skip(1, 0), skip(99, 0))[2:], [[-4], [-4]])
        self.assertEqual(last(room(5), book(1, 0, EVER), end(0), skip(0, 0)), [-4])

    def test_what_waits_gives_up_nothing(self):
        found = ask(room(5), book(1, 0, EVER), wait(1, 0, EVER), skip(1, 0), end(0), would(0, once(0, 5)))
        self.assertEqual(found[3:], [[-4], [1, 1], [0, 1, 0]])

    def test_not_booked_ahead_of_no_such_time(self):
        self.assertEqual(ask(skip(0, 10000)), [[-4]])
        self.assertEqual(last(room(5), book(1, 0, EVER), wait(1, 0, EVER), skip(1, 10000)), [-4])

    def test_it_has_not_that_time(self):
        self.assertEqual(skips(once(0, 60), 1, 20000, 0), [[-2], [-2], [0]])
        self.assertEqual(skips((0, 60, 7, 1), 1, 0), [[-2], [0]])
        self.assertEqual(skips((0, 60, 7, 2), 2, 1, 0), [[-2], [0], [0]])
        self.assertEqual(skips((0, 60, 7, 500), 500, 501, 9999, 499, 0), [[-2], [-2], [-2], [0], [0]])

    def test_that_has_been_given_up(self):
        self.assertEqual(skips(PLAIN, 3, 3, 4, 3, 4, 5), [[0], [-2], [0], [-2], [-2], [0]])

    def test_it_is_above_9999(self):
        self.assertEqual(skips(PLAIN, 9999, 10000, 10001, 20000, 9998, 9999), [[0], [-2], [-2], [-2], [0], [-2]])

    def test_a_time_that_is_far_ahead(self):
        found = ask(room(5), book(1, 0, (0, 1, 59, 0)), skip(0, 9999), skip(0, 59),
                    would(0, (DAY, 1, 60, 0)), would(0, (0, 1, 59, 500)))
        self.assertEqual(found[2:], [[0], [0], [0, 0, 7021 * DAY], [0, 0, 0]])

    def test_five_have_been_given_up(self):
        self.assertEqual(skips(PLAIN, 0, 1, 2, 3, 4, 5, 6), [[0]] * 5 + [[-5]] * 2)
        self.assertEqual(skips((0, 60, 7, 6), 5, 4, 3, 2, 1, 0), [[0]] * 5 + [[-5]])

    def test_no_such_time_ahead_of_five(self):
        self.assertEqual(skips((0, 60, 7, 0), 0, 1, 2, 3, 4, 4, 10000), [[0]] * 5 + [[-2]] * 2)
        self.assertEqual(skips((0, 60, 7, 9), 0, 1, 2, 3, 4, 0, 9, 8), [[0]] * 5 + [[-2], [-2], [-5]])

    def test_each_has_five_of_its_own(self):
        line = [room(5), book(1, 0, PLAIN), book(1, 0, (60, 60, 7, 0))]
        five = [skip(0, k) for k in range(5)]
        self.assertEqual(ask(*line, *five, skip(0, 5), skip(1, 0))[-2:], [[-5], [0]])


class ServedBySkip(unittest.TestCase):
    def test_who_waits_is_served(self):
        found = ask(room(5), book(1, 0, EVER), wait(1, 0, once(DAY, 60)), wait(1, 0, once(DAY + 60, 60)),
                    wait(1, 0, once(DAY + 30, 60)), wait(1, 0, once(2 * DAY, 60)), skip(0, 0), skip(0, 1),
                    skip(0, 2), end(1), end(2))
        self.assertEqual(found[6:], [[0], [2, 1, 2], [1, 4], [0], [1, 3]])

    def test_a_meeting_far_ahead_was_the_only_one(self):
        found = ask(room(5), book(1, 0, (0, 60, 59, 119)), wait(1, 0, (DAY, 60, 60, 0)), skip(0, 58), skip(0, 59))
        self.assertEqual(found[2:], [[1, 0], [0], [1, 1]])

    def test_it_waits_on_as_long_as_they_meet_for_ever(self):
        found = ask(room(5), book(1, 0, (0, 60, 59, 0)), wait(1, 0, (DAY, 60, 60, 0)),
                    *[skip(0, 59 + 60 * k) for k in range(5)], end(0))
        self.assertEqual(found[2:], [[1, 0]] + [[0]] * 5 + [[1, 1]])

    def test_a_time_given_up_for_another_stays_free_of_both(self):
        found = ask(room(5), book(1, 0, EVER), wait(1, 0, once(DAY, 60)), skip(0, 1), skip(1, 0),
                    would(0, once(DAY, DAY)))
        self.assertEqual(found[3:], [[1, 1], [0], [1]])

    def test_a_refused_skip_serves_none(self):
        found = ask(room(5), book(1, 0, (0, 60, 1, 1)), wait(1, 0, once(0, 60)), skip(0, 1), skip(1, 0), skip(0, 0))
        self.assertEqual(found[3:], [[-2], [-4], [1, 1]])
