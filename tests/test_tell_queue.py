"""Points 13 and 14: tell and queue."""

import unittest

from tests.helper import (
    DAY, EVER, PLAIN, any_room, ask, at, book, cut, end, hours, last, once, queue, room, skip, tell, wait,
)


class Tell(unittest.TestCase):
    def test_what_is_booked(self):
        found = ask(room(5), room(7), book(99, 1, (1000000, 1440, 60, 500)), any_room(0, 1, once(0, 1)),
                    wait(12, 1, (0, 60, 7, 3)), tell(0), tell(1), tell(2))
        self.assertEqual(found[5:], [[1, 99, 1, 1000000, 1440, 60, 500, 0], [1, 0, 0, 0, 1, 0, 1, 0],
                                     [1, 12, 1, 0, 60, 7, 3, 0]])

    def test_what_waits(self):
        found = ask(room(5), room(7), book(1, 1, EVER), wait(99, 1, (77, 60, 9, 20)), tell(1), tell(0))
        self.assertEqual(found[4:], [[0, 99, 1, 77, 60, 9, 20, 0], [1, 1, 1, *EVER, 0]])

    def test_what_waited_is_booked(self):
        found = ask(room(5), book(1, 0, EVER), wait(2, 0, PLAIN), wait(3, 0, EVER), tell(1), end(0), tell(1), tell(2),
                    skip(1, 4), tell(1), end(1), tell(2))
        self.assertEqual(found[4:], [[0, 2, 0, *PLAIN, 0], [1, 1], [1, 2, 0, *PLAIN, 0], [0, 3, 0, *EVER, 0],
                                     [0], [1, 2, 0, *PLAIN, 1, 4], [1, 2], [1, 3, 0, *EVER, 0]])

    def test_times_given_up_in_the_order_in_which_they_were(self):
        found = ask(room(5), book(1, 0, EVER), skip(0, 9999), tell(0), skip(0, 0), tell(0), skip(0, 7), skip(0, 3),
                    skip(0, 5), tell(0), skip(0, 1), skip(0, 7), tell(0))
        self.assertEqual(found[3], [1, 1, 0, *EVER, 1, 9999])
        self.assertEqual(found[5], [1, 1, 0, *EVER, 2, 9999, 0])
        self.assertEqual(found[9:], [[1, 1, 0, *EVER, 5, 9999, 0, 7, 3, 5], [-5], [-2],
                                     [1, 1, 0, *EVER, 5, 9999, 0, 7, 3, 5]])

    def test_ahead_of_and_behind_a_cut(self):
        found = ask(room(5), book(1, 0, PLAIN), tell(0), cut(0, 500), tell(0), cut(0, 1), tell(0), cut(0, 1), tell(0))
        self.assertEqual(found[2:], [[1, 1, 0, 0, 60, 7, 0, 0], [0], [1, 1, 0, 0, 60, 7, 500, 0], [0],
                                     [1, 1, 0, 0, 60, 7, 1, 0], [-2], [1, 1, 0, 0, 60, 7, 1, 0]])

    def test_a_cut_ahead_of_a_skip_and_behind_it(self):
        found = ask(room(5), book(1, 0, PLAIN), skip(0, 8), skip(0, 1), cut(0, 9), tell(0), skip(0, 0), cut(0, 4),
                    tell(0), skip(0, 4), skip(0, 3), tell(0))
        self.assertEqual(found[5:], [[1, 1, 0, 0, 60, 7, 9, 2, 8, 1], [0], [0], [1, 1, 0, 0, 60, 7, 4, 3, 8, 1, 0],
                                     [-2], [0], [1, 1, 0, 0, 60, 7, 4, 4, 8, 1, 0, 3]])

    def test_all_its_times_were_given_up(self):
        found = ask(room(5), book(1, 0, once(5, 6)), skip(0, 0), tell(0))
        self.assertEqual(found[3], [1, 1, 0, 5, 6, 0, 1, 1, 0])

    def test_each_has_its_own(self):
        found = ask(room(5), book(1, 0, PLAIN), book(2, 0, (60, 60, 7, 0)), skip(0, 1), cut(1, 9), tell(0), tell(1))
        self.assertEqual(found[5:], [[1, 1, 0, 0, 60, 7, 0, 1, 1], [1, 2, 0, 60, 60, 7, 9, 0]])

    def test_there_is_none(self):
        self.assertEqual(ask(tell(0), tell(99)), [[-4], [-4]])
        self.assertEqual(ask(room(5), book(1, 0, PLAIN), tell(1), tell(0), end(0), tell(0))[2:],
                         [[-4], [1, 1, 0, *PLAIN, 0], [0], [-4]])
        self.assertEqual(ask(room(5), book(1, 0, PLAIN), wait(1, 0, PLAIN), end(1), tell(1), tell(2))[4:], [[-4], [-4]])
        self.assertEqual(ask(room(5), book(1, 0, PLAIN), book(1, 0, PLAIN), tell(1))[2:], [[-7], [-4]])

    def test_telling_changes_nothing(self):
        line = [room(5), book(1, 0, PLAIN), skip(0, 1), tell(0), tell(0), skip(0, 2), tell(0)]
        self.assertEqual(ask(*line)[3:], [[1, 1, 0, *PLAIN, 1, 1]] * 2 + [[0], [1, 1, 0, *PLAIN, 2, 1, 2]])


class Queue(unittest.TestCase):
    def test_none_waits(self):
        self.assertEqual(ask(queue()), [[0]])
        self.assertEqual(ask(room(5), book(1, 0, EVER), wait(1, 0, EVER), end(1), queue())[-1], [0])
        self.assertEqual(last(room(5), wait(1, 0, EVER), queue()), [0])

    def test_their_numbers_in_their_order(self):
        found = ask(room(5), room(5), book(1, 1, EVER), wait(9, 1, PLAIN), book(1, 0, EVER), wait(5, 0, EVER),
                    wait(7, 1, EVER), queue(), queue())
        self.assertEqual(found[7:], [[3, 1, 3, 4]] * 2)

    def test_ahead_of_and_behind_end(self):
        found = ask(room(5), book(1, 0, EVER), wait(2, 0, once(0, 60)), wait(3, 0, once(30, 60)),
                    wait(4, 0, once(60, 60)), wait(5, 0, EVER), queue(), end(0), queue(), end(2), queue(), end(1),
                    queue(), end(3), queue())
        self.assertEqual(found[6:], [[4, 1, 2, 3, 4], [2, 1, 3], [2, 2, 4], [0], [1, 4], [0], [1, 4], [1, 4], [0]])

    def test_one_in_the_middle_waits_no_more(self):
        found = ask(room(5), book(1, 0, EVER), *[wait(2, 0, EVER)] * 3, queue(), end(2), queue(), wait(2, 0, EVER),
                    queue(), end(0), queue())
        self.assertEqual(found[5:], [[3, 1, 2, 3], [0], [2, 1, 3], [4, 0], [3, 1, 3, 4], [1, 1], [2, 3, 4]])

    def test_ahead_of_and_behind_skip(self):
        found = ask(room(5), book(1, 0, EVER), wait(2, 0, once(DAY, 60)), wait(3, 0, once(2 * DAY, 60)), queue(),
                    skip(0, 0), queue(), skip(0, 2), queue(), skip(0, 1), queue())
        self.assertEqual(found[4:], [[2, 1, 2], [0], [2, 1, 2], [1, 2], [1, 1], [1, 1], [0]])

    def test_ahead_of_and_behind_cut(self):
        found = ask(room(5), book(1, 0, EVER), wait(2, 0, once(DAY, 60)), wait(3, 0, once(2 * DAY, 60)), queue(),
                    cut(0, 3), queue(), cut(0, 2), queue(), cut(0, 1), queue())
        self.assertEqual(found[4:], [[2, 1, 2], [0], [2, 1, 2], [1, 2], [1, 1], [1, 1], [0]])

    def test_as_many_as_may_be(self):
        found = ask(room(5), book(1, 0, EVER), *[wait(2, 0, EVER)] * 23, wait(2, 0, EVER), queue())
        self.assertEqual(found[-2:], [[-5], [23, *range(1, 24)]])
        self.assertEqual(ask(room(5), *hours(23), wait(1, 0, EVER), queue(), at(0, 0))[-2:], [[1, 23], [1, 0, 1]])
