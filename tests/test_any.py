"""Point 4: any."""

import unittest

from tests.helper import DAY, EVER, PLAIN, any_room, ask, book, end, hours, last, once, room, wait, would

ROOMS = [room(30), room(10), room(20), room(10), room(500)]


class AnyRoom(unittest.TestCase):
    def test_the_fewest_seats_that_are_enough(self):
        for seats, answer in ((1, 1), (9, 1), (10, 1), (11, 2), (20, 2), (21, 0), (30, 0), (31, 4), (500, 4)):
            with self.subTest(seats):
                self.assertEqual(last(*ROOMS, any_room(1, seats, PLAIN)), [answer, 0])

    def test_one_room_behind_another(self):
        found = ask(*ROOMS, *[any_room(1, 5, EVER)] * 6)
        self.assertEqual(found[5:], [[1, 0], [3, 1], [2, 2], [0, 3], [4, 4], [-7]])

    def test_it_takes_the_room_in_which_it_fits(self):
        line = [*ROOMS, book(1, 1, once(DAY, 60)), book(1, 3, once(2 * DAY, 60))]
        self.assertEqual(last(*line, any_room(1, 10, (0, 60, 1, 2))), [3, 2])
        self.assertEqual(last(*line, any_room(1, 10, (0, 60, 1, 3))), [2, 2])
        self.assertEqual(last(*line, any_room(1, 10, (0, 60, 1, 1))), [1, 2])

    def test_it_is_booked_there(self):
        found = ask(*ROOMS, any_room(1, 15, EVER), would(2, once(70, 5)), would(1, once(70, 5)))
        self.assertEqual(found[5:], [[2, 0], [0, 0, 70], [1]])

    def test_it_does_not_wait(self):
        found = ask(room(5), book(1, 0, EVER), any_room(1, 5, PLAIN), end(0), book(1, 0, EVER))
        self.assertEqual(found[1:], [[0], [-7], [0], [1]])

    def test_there_is_none(self):
        self.assertEqual(ask(any_room(1, 1, PLAIN)), [[-7]])
        self.assertEqual(last(room(5), any_room(1, 6, PLAIN)), [-7])
        for seats in (501, 1000):
            with self.subTest(seats):
                self.assertEqual(last(*ROOMS, any_room(1, seats, PLAIN)), [-7])

    def test_no_seats(self):
        self.assertEqual(last(room(5), any_room(1, 0, PLAIN)), [-1])
        self.assertEqual(ask(any_room(1, 0, PLAIN)), [[-1]])

    def test_wrong_ahead_of_none(self):
        self.assertEqual(ask(any_room(100, 5, PLAIN)), [[-1]])
        self.assertEqual(ask(any_room(1, 5, (0, 60, 0, 2))), [[-1]])

    def test_24_are_booked_or_wait(self):
        full = [room(5), *hours(20), *[wait(1, 0, once(0, 5))] * 4]
        self.assertEqual(last(*full, any_room(1, 5, once(9000, 5))), [-5])
        self.assertEqual(last(*full, any_room(1, 5, once(0, 5))), [-5])
        self.assertEqual(last(*full, any_room(1, 6, once(0, 5))), [-5])
        self.assertEqual(last(*full, any_room(1, 0, once(9000, 5))), [-1])
        self.assertEqual(last(*full, any_room(100, 5, once(9000, 5))), [-1])
        self.assertEqual(last(*full, any_room(1, 5, once(9000, 0))), [-1])
        self.assertEqual(last(*full[:-1], any_room(1, 5, once(9000, 5))), [0, 23])
        self.assertEqual(last(*full[:-1], any_room(1, 5, once(0, 5))), [-7])
