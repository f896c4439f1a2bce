"""Points 1 and 2: room and book."""

import unittest

from tests.helper import DAY, EVER, PLAIN, ask, book, end, hours, last, once, room, skip, wait


class Room(unittest.TestCase):
    def test_rooms_are_numbered_from_0_on(self):
        self.assertEqual(ask(room(10), room(3), room(10)), [[0], [1], [2]])

    def test_seats(self):
        for seats, answer in ((0, -1), (1, 0), (2, 0), (499, 0), (500, 0), (501, -1), (1000, -1)):
            with self.subTest(seats):
                self.assertEqual(ask(room(seats)), [[answer]])

    def test_five_rooms(self):
        found = ask(*[room(10)] * 7)
        self.assertEqual(found, [[0], [1], [2], [3], [4], [-5], [-5]])

    def test_wrong_seats_ahead_of_five_rooms(self):
        five = [room(10)] * 5
        self.assertEqual(last(*five, room(0)), [-1])
        self.assertEqual(last(*five, room(501)), [-1])

    def test_a_refused_room_has_no_number(self):
        self.assertEqual(ask(room(0), room(501), book(1, 0, PLAIN), room(7)), [[-1], [-1], [-3], [0]])
        self.assertEqual(last(*[room(10)] * 6, book(1, 5, PLAIN)), [-3])


class Book(unittest.TestCase):
    def test_numbers_in_the_order_in_which_it_came(self):
        found = ask(room(5), room(5), book(1, 0, PLAIN), book(1, 1, PLAIN), book(2, 0, once(60, 10)))
        self.assertEqual(found[2:], [[0], [1], [2]])

    def test_it_does_not_fit(self):
        found = ask(room(5), book(1, 0, PLAIN), book(2, 0, PLAIN), book(1, 0, once(7 * DAY + 59, 5)))
        self.assertEqual(found[1:], [[0], [-7], [-7]])

    def test_the_same_in_another_room_fits(self):
        self.assertEqual(ask(room(5), room(5), book(1, 0, EVER), book(1, 1, EVER))[2:], [[0], [1]])

    def test_what_touches_fits(self):
        found = ask(room(5), book(1, 0, once(60, 60)), book(1, 0, once(0, 60)), book(1, 0, once(120, 60)))
        self.assertEqual(found[1:], [[0], [1], [2]])

    def test_no_such_room(self):
        for number in (1, 2, 5, 20):
            with self.subTest(number):
                self.assertEqual(last(room(5), book(1, number, PLAIN)), [-3])
        self.assertEqual(ask(book(1, 0, PLAIN)), [[-3]])

    def test_no_room_ahead_of_a_wrong_plan_and_whom(self):
        self.assertEqual(last(room(5), book(1, 1, (0, 0, 7, 0))), [-3])
        self.assertEqual(last(room(5), book(100, 1, PLAIN)), [-3])

    def test_24_are_booked(self):
        found = ask(room(5), *hours(24), book(1, 0, once(60 * 24, 60)))
        self.assertEqual(found[1:25], [[k] for k in range(24)])
        self.assertEqual(found[25], [-5])

    def test_24_are_booked_or_wait_in_all_rooms(self):
        waiting = [wait(2, 0, once(0, 60))] * 3
        others = hours(11, number=1)
        found = ask(room(5), room(5), *hours(10), *waiting, *others, book(1, 1, once(6000, 5)))
        self.assertEqual(found[-2:], [[23], [-5]])

    def test_one_that_ended_counts_no_more(self):
        found = ask(room(5), *hours(24), end(3), book(1, 0, once(180, 60)), book(1, 0, once(9000, 60)))
        self.assertEqual(found[-3:], [[0], [24], [-5]])

    def test_one_whose_times_are_all_given_up_counts(self):
        found = ask(room(5), *hours(24), skip(3, 0), book(1, 0, once(180, 60)))
        self.assertEqual(found[-2:], [[0], [-5]])

    def test_order_of_the_refusals(self):
        full = [room(5), *hours(24)]
        self.assertEqual(last(*full, book(100, 1, (0, 0, 7, 0))), [-3])
        self.assertEqual(last(*full, book(100, 0, once(0, 60))), [-1])
        self.assertEqual(last(*full, book(1, 0, (0, 0, 7, 0))), [-1])
        self.assertEqual(last(*full, book(1, 0, once(0, 60))), [-5])
        self.assertEqual(last(room(5), *hours(23), book(1, 0, once(0, 60))), [-7])
        self.assertEqual(last(room(5), *hours(23), book(100, 0, once(0, 60))), [-1])

    def test_numbers_are_not_used_again(self):
        found = ask(room(5), book(1, 0, PLAIN), end(0), book(1, 0, PLAIN), end(1), book(1, 0, PLAIN), end(0))
        self.assertEqual(found[1:], [[0], [0], [1], [0], [2], [-4]])

    def test_a_refusal_uses_no_number(self):
        found = ask(room(5), book(1, 0, PLAIN), book(1, 0, PLAIN), book(1, 1, PLAIN), book(100, 0, PLAIN),
                    book(1, 0, once(60, 5)))
        self.assertEqual(found[1:], [[0], [-7], [-3], [-1], [1]])
