"""Point 3: would, and with it where two plans meet."""

import unittest

from tests.helper import DAY, EVER, PLAIN, ask, book, end, hours, last, once, room, skip, wait, would


def after(booked, when, *skips):
    """Would it fit, beside one that is booked and has given up these times?"""
    return last(room(5), book(1, 0, booked), *[skip(0, k) for k in skips], would(0, when))


class Would(unittest.TestCase):
    def test_in_an_empty_room(self):
        self.assertEqual(ask(room(5), would(0, EVER)), [[0], [1]])

    def test_it_books_nothing(self):
        self.assertEqual(ask(room(5), would(0, EVER), would(0, EVER), book(1, 0, EVER))[1:], [[1], [1], [0]])

    def test_no_such_room_ahead_of_no_such_plan(self):
        self.assertEqual(ask(would(0, PLAIN)), [[-3]])
        self.assertEqual(ask(room(5), would(1, (0, 0, 0, 0)), would(0, (0, 0, 0, 0)))[1:], [[-3], [-1]])

    def test_it_is_told_also_where_24_are_booked(self):
        full = [room(5), *hours(24)]
        self.assertEqual(last(*full, would(0, once(59, 60))), [0, 0, 59])
        self.assertEqual(last(*full, would(0, once(DAY, 60))), [1])

    def test_other_rooms_do_not_count(self):
        self.assertEqual(ask(room(5), room(5), book(1, 0, EVER), would(1, EVER), would(0, EVER))[3:],
                         [[1], [0, 0, 0]])

    def test_what_waits_does_not_count(self):
        found = ask(room(5), book(1, 0, once(0, 60)), wait(1, 0, once(30, 60)), would(0, once(60, 60)))
        self.assertEqual(found[1:], [[0], [1, 0], [1]])

    def test_what_it_meets_first(self):
        line = [room(5), book(1, 0, once(500, 60)), book(1, 0, once(300, 60)), book(1, 0, once(100, 60))]
        self.assertEqual(last(*line, would(0, once(0, 1000))), [0, 2, 100])
        self.assertEqual(last(*line, would(0, once(160, 1000))), [0, 1, 300])
        self.assertEqual(last(*line, would(0, once(359, 1000))), [0, 1, 359])
        self.assertEqual(last(*line, would(0, once(360, 1000))), [0, 0, 500])
        self.assertEqual(last(*line, would(0, once(560, 1000))), [1])

    def test_first_is_by_the_moment_not_by_the_first_moment_of_a_plan(self):
        line = [room(5), book(1, 0, (0, 60, 60, 0)), book(1, 0, (5 * DAY + 60, 60, 7, 0))]
        # The one has days 0, 60 .., the other one days 5, 12, 19, 26 ..
        self.assertEqual(last(*line, would(0, (20 * DAY, 120, 1, 0))), [0, 1, 26 * DAY + 60])
        # Days 4, 11, 18 ..: never those of the other one, but day 60 at last.
        self.assertEqual(last(*line, would(0, (4 * DAY, 120, 7, 0))), [0, 0, 60 * DAY])

    def test_what_is_met_has_been_served_late(self):
        found = ask(room(5), book(1, 0, once(0, 60)), wait(1, 0, once(0, 90)), end(0), would(0, once(80, 60)))
        self.assertEqual(found[3:], [[1, 1], [0, 1, 80]])


class Meeting(unittest.TestCase):
    def test_single_times(self):
        booked = once(1000, 100)
        for first, length, answer in (
            (0, 1000, [1]), (0, 1001, [0, 0, 1000]), (999, 1, [1]), (999, 2, [0, 0, 1000]), (1000, 1, [0, 0, 1000]),
            (1000, 100, [0, 0, 1000]), (1050, 10, [0, 0, 1050]), (1050, 1440, [0, 0, 1050]), (1099, 1, [0, 0, 1099]),
            (1100, 1, [1]), (1100, 1440, [1]), (900, 300, [0, 0, 1000]), (1000 + DAY, 100, [1]),
        ):
            with self.subTest(first=first, length=length):
                self.assertEqual(after(booked, once(first, length)), answer)

    def test_over_the_end_of_a_day(self):
        self.assertEqual(after(once(1400, 100), once(1440, 10)), [0, 0, 1440])
        self.assertEqual(after(once(1440, 10), once(1400, 100)), [0, 0, 1440])
        self.assertEqual(after(once(1400, 40), once(1440, 10)), [1])
        self.assertEqual(after((1400, 100, 3, 0), (0, 60, 5, 0)), [0, 0, 10 * DAY])
        self.assertEqual(after((0, 60, 5, 0), (1400, 100, 3, 0)), [0, 0, 10 * DAY])

    def test_a_day_that_is_had_whole_for_ever(self):
        booked = (5000, 1440, 1, 0)
        self.assertEqual(after(booked, once(3560, 1440)), [1])
        self.assertEqual(after(booked, once(3561, 1440)), [0, 0, 5000])
        self.assertEqual(after(booked, once(1000000, 1)), [0, 0, 1000000])
        self.assertEqual(after(booked, (0, 1, 60, 0)), [0, 0, 60 * DAY])
        self.assertEqual(after(booked, (4999, 1440, 60, 0)), [0, 0, 5000])
        self.assertEqual(after(booked, (0, 1, 1, 4)), [1])
        self.assertEqual(after(booked, (0, 1, 1, 5)), [0, 0, 4 * DAY])

    def test_a_day_that_is_had_whole_some_times(self):
        self.assertEqual(after((0, 1440, 1, 500), once(500 * DAY, 1440)), [1])
        self.assertEqual(after((0, 1440, 1, 500), once(500 * DAY - 1, 1440)), [0, 0, 500 * DAY - 1])
        self.assertEqual(after((0, 1440, 1, 500), (500 * DAY, 1440, 1, 0)), [1])
        self.assertEqual(after((500 * DAY, 1440, 1, 0), (0, 1440, 1, 500)), [1])
        self.assertEqual(after((499 * DAY, 1440, 1, 0), (0, 1440, 1, 500)), [0, 0, 499 * DAY])

    def test_two_leads_the_earlier_counts(self):
        self.assertEqual(after((0, 1000, 1, 0), once(900, 1000)), [0, 0, 900])
        self.assertEqual(after((0, 1000, 1, 0), once(900, 1000), 0), [0, 0, 1440])
        self.assertEqual(after((0, 1000, 1, 0), once(900, 1000), 1), [0, 0, 900])
        self.assertEqual(after((0, 1000, 1, 0), once(900, 1000), 0, 1), [1])
        self.assertEqual(after((1440, 1000, 1, 0), (900, 1000, 1, 0)), [0, 0, 1440])

    def test_for_ever_both(self):
        self.assertEqual(after((0, 60, 7, 0), (DAY, 60, 9, 0)), [0, 0, 28 * DAY])
        self.assertEqual(after((0, 60, 7, 0), (DAY + 59, 60, 9, 0)), [0, 0, 28 * DAY + 59])
        self.assertEqual(after((0, 60, 7, 0), (DAY + 60, 60, 9, 0)), [1])
        self.assertEqual(after((59, 60, 7, 0), (DAY, 60, 9, 0)), [0, 0, 28 * DAY + 59])

    def test_for_ever_both_and_never(self):
        self.assertEqual(after((0, 60, 7, 0), (DAY, 60, 7, 0)), [1])
        self.assertEqual(after((0, 60, 6, 0), (DAY, 60, 4, 0)), [1])
        self.assertEqual(after((0, 60, 6, 0), (2 * DAY, 60, 4, 0)), [0, 0, 6 * DAY])
        self.assertEqual(after((0, 1440, 2, 0), (DAY, 1440, 60, 0)), [1])
        self.assertEqual(after((0, 1440, 2, 0), (DAY + 1, 1440, 60, 0)), [0, 0, 2 * DAY])

    def test_far_ahead(self):
        # Day 0 left over by 59 and day 1 left over by 60: the first such day is 59 * 59.
        self.assertEqual(after((0, 60, 59, 0), (DAY, 60, 60, 0)), [0, 0, 3481 * DAY])
        self.assertEqual(after((DAY, 60, 60, 0), (0, 60, 59, 0)), [0, 0, 3481 * DAY])
        # A first moment at the bound is 640 minutes into day 694, and 694 + 58 * 60 is 44 + 70 * 59.
        self.assertEqual(after((640 + 44 * DAY, 1, 59, 0), (1000000, 1, 60, 0)), [0, 0, 640 + 4174 * DAY])
        self.assertEqual(after((1000000, 1, 60, 0), (640 + 44 * DAY, 1, 59, 0)), [0, 0, 640 + 4174 * DAY])
        self.assertEqual(after((640 + 45 * DAY, 1, 59, 0), (1000000, 1, 60, 0)), [0, 0, 1000000])

    def test_far_ahead_but_not_so_many_times(self):
        self.assertEqual(after((0, 60, 59, 59), (DAY, 60, 60, 0)), [1])
        self.assertEqual(after((0, 60, 59, 60), (DAY, 60, 60, 0)), [0, 0, 3481 * DAY])
        self.assertEqual(after((0, 60, 59, 0), (DAY, 60, 60, 58)), [1])
        self.assertEqual(after((0, 60, 59, 0), (DAY, 60, 60, 59)), [0, 0, 3481 * DAY])
        self.assertEqual(after((DAY, 60, 60, 59), (0, 60, 59, 60)), [0, 0, 3481 * DAY])
        self.assertEqual(after((DAY, 60, 60, 58), (0, 60, 59, 60)), [1])
        self.assertEqual(after((DAY, 60, 60, 59), (0, 60, 59, 59)), [1])

    def test_given_up_so_it_is_later(self):
        self.assertEqual(after((0, 60, 59, 0), (DAY, 60, 60, 0), 59), [0, 0, 7021 * DAY])
        self.assertEqual(after((0, 60, 59, 0), (DAY, 60, 60, 0), 59, 119), [0, 0, 10561 * DAY])
        self.assertEqual(after((0, 60, 59, 0), (DAY, 60, 60, 0), 119, 59), [0, 0, 10561 * DAY])
        self.assertEqual(after((0, 60, 59, 0), (DAY, 60, 60, 0), 119), [0, 0, 3481 * DAY])
        five = [59 + 60 * k for k in range(5)]
        # In more than sixty years.
        self.assertEqual(after((0, 60, 59, 0), (DAY, 60, 60, 0), *five), [0, 0, (3481 + 5 * 3540) * DAY])

    def test_given_up_so_they_never_meet(self):
        self.assertEqual(after((0, 60, 1, 0), once(2 * DAY, 60), 2), [1])
        self.assertEqual(after((0, 60, 1, 0), (2 * DAY, 60, 3, 2), 2), [0, 0, 5 * DAY])
        self.assertEqual(after((0, 60, 1, 0), (2 * DAY, 60, 3, 2), 2, 5), [1])
        self.assertEqual(after((0, 60, 1, 0), (0, 60, 1, 5), 0, 1, 2, 3, 4), [1])
        self.assertEqual(after((0, 60, 1, 0), (0, 60, 1, 6), 0, 1, 2, 3, 4), [0, 0, 5 * DAY])
        self.assertEqual(after((0, 60, 59, 119), (DAY, 60, 60, 0), 59), [1])
        self.assertEqual(after((0, 60, 59, 120), (DAY, 60, 60, 0), 59), [0, 0, 7021 * DAY])
        self.assertEqual(after(once(0, 60), EVER, 0), [1])

    def test_given_up_at_both(self):
        # Those that meet on days 0, 6, 12 ..: the one gives up days 0 and 12, the other day 6, each for the other.
        line = [room(5), book(1, 0, (0, 60, 2, 0)), skip(0, 0), skip(0, 6),
                wait(1, 0, (0, 60, 3, 5)), would(0, (0, 60, 6, 0)), skip(0, 3), would(0, (0, 60, 3, 5))]
        self.assertEqual(ask(*line)[4:], [[1, 0], [0, 0, 6 * DAY], [1, 1], [0, 1, 0]])

    def test_given_up_at_both_that_are_booked_and_met(self):
        line = [room(5), book(1, 0, (0, 60, 2, 5)), skip(0, 0), skip(0, 3),
                book(2, 0, (0, 60, 3, 3)), skip(1, 0), would(0, (0, 60, 1, 0)), skip(1, 2), would(0, (0, 60, 6, 0)),
                would(0, (0, 60, 3, 0))]
        self.assertEqual(ask(*line)[4:], [[1], [0], [0, 0, 2 * DAY], [0], [1], [0, 1, 3 * DAY]])
