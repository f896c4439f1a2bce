"""Which plans there are: -1 of book, would, any and wait; and where two of them meet that have both given up times."""

import unittest

from roomsforever.plans import first_meeting, plan_of
from tests.helper import DAY, any_room, book, last, room, wait, would

RIGHT = {
    "first 0": (0, 60, 7, 0),
    "first 1000000": (1000000, 60, 7, 0),
    "length 1": (0, 1, 7, 0),
    "length 1440": (0, 1440, 7, 0),
    "length 1440, days 1": (0, 1440, 1, 0),
    "days 0, times 1": (0, 60, 0, 1),
    "days 1": (0, 60, 1, 0),
    "days 60": (0, 60, 60, 0),
    "times 1, comes again": (0, 60, 7, 1),
    "times 2, comes again": (0, 60, 7, 2),
    "times 500": (0, 60, 7, 500),
    "all at their greatest": (1000000, 1440, 60, 500),
}

WRONG = {
    "first 1000001": (1000001, 60, 7, 0),
    "first 2000000": (2000000, 60, 7, 0),
    "length 0": (0, 0, 7, 0),
    "length 1441": (0, 1441, 7, 0),
    "length 3000": (0, 3000, 7, 0),
    "days 61": (0, 60, 61, 0),
    "days 100": (0, 60, 100, 0),
    "days 0, times 0": (0, 60, 0, 0),
    "days 0, times 2": (0, 60, 0, 2),
    "days 0, times 500": (0, 60, 0, 500),
    "times 501": (0, 60, 7, 501),
    "times 1000": (0, 60, 7, 1000),
    "days 0, times 501": (0, 60, 0, 501),
    "first and length": (1000001, 0, 7, 0),
    "all 0": (0, 0, 0, 0),
}


class Plans(unittest.TestCase):
    def test_plans_that_there_are(self):
        for name, when in RIGHT.items():
            with self.subTest(name):
                self.assertEqual(last(room(5), book(3, 0, when)), [0])
                self.assertEqual(last(room(5), would(0, when)), [1])
                self.assertEqual(last(room(5), any_room(3, 5, when)), [0, 0])
                self.assertEqual(last(room(5), wait(3, 0, when)), [0, 1])

    def test_plans_that_there_are_not(self):
        for name, when in WRONG.items():
            with self.subTest(name):
                self.assertEqual(last(room(5), book(3, 0, when)), [-1])
                self.assertEqual(last(room(5), would(0, when)), [-1])
                self.assertEqual(last(room(5), any_room(3, 5, when)), [-1])
                self.assertEqual(last(room(5), wait(3, 0, when)), [-1])

    def test_for_whom(self):
        for whom, is_right in ((0, True), (1, True), (99, True), (100, False), (101, False), (200, False)):
            with self.subTest(whom):
                when = (0, 60, 7, 0)
                self.assertEqual(last(room(5), book(whom, 0, when)), [0] if is_right else [-1])
                self.assertEqual(last(room(5), any_room(whom, 5, when)), [0, 0] if is_right else [-1])
                self.assertEqual(last(room(5), wait(whom, 0, when)), [0, 1] if is_right else [-1])


class BothGiveUp(unittest.TestCase):
    def first(self, given_up, others):
        one = plan_of((0, 60, 59, 0))
        other = plan_of((DAY, 60, 60, 0))
        one.given_up.extend(given_up)
        other.given_up.extend(others)
        found = first_meeting(one, other)
        self.assertEqual(first_meeting(other, one), found)
        return found // DAY

    def test_each_for_itself(self):
        self.assertEqual(self.first([], []), 3481)
        self.assertEqual(self.first([59], []), 7021)
        self.assertEqual(self.first([], [58]), 7021)
        self.assertEqual(self.first([59], [58]), 7021)
        self.assertEqual(self.first([59], [117]), 10561)
        self.assertEqual(self.first([119], [58]), 10561)

    def test_five_each(self):
        ones = [59 + 60 * k for k in range(0, 10, 2)]
        others = [58 + 59 * k for k in range(1, 10, 2)]
        # The eleventh meeting, in more than a hundred years.
        self.assertEqual(self.first(ones, others), 3481 + 10 * 3540)
        self.assertEqual(self.first(ones, others[:4]), 3481 + 9 * 3540)
