"""Points 5 and 6: wait and end, and with them how who waits is served."""

import unittest

from tests.helper import DAY, EVER, PLAIN, any_room, ask, book, end, hours, last, once, room, skip, wait, would


class Wait(unittest.TestCase):
    def test_it_is_booked_if_it_fits(self):
        found = ask(room(5), wait(1, 0, PLAIN), would(0, PLAIN), wait(1, 0, once(60, 5)))
        self.assertEqual(found[1:], [[0, 1], [0, 0, 0], [1, 1]])

    def test_it_waits_if_it_does_not_fit(self):
        found = ask(room(5), book(1, 0, PLAIN), wait(2, 0, (DAY, 60, 9, 0)), would(0, once(DAY, 60)))
        self.assertEqual(found[1:], [[0], [1, 0], [1]])

    def test_what_fits_is_booked_also_where_others_wait(self):
        found = ask(room(5), book(1, 0, once(0, 60)), wait(2, 0, once(30, 60)), book(3, 0, once(60, 60)),
                    wait(4, 0, once(120, 60)), end(0))
        self.assertEqual(found[1:], [[0], [1, 0], [2], [3, 1], [0]])

    def test_other_rooms_do_not_count(self):
        found = ask(room(5), room(5), book(1, 0, EVER), wait(1, 1, EVER), wait(1, 0, EVER))
        self.assertEqual(found[2:], [[0], [1, 1], [2, 0]])

    def test_refusals_in_their_order(self):
        full = [room(5), *hours(23), wait(1, 0, once(0, 5))]
        self.assertEqual(last(*full, wait(100, 1, once(0, 0))), [-3])
        self.assertEqual(last(*full, wait(100, 0, once(0, 5))), [-1])
        self.assertEqual(last(*full, wait(1, 0, once(0, 0))), [-1])
        self.assertEqual(last(*full, wait(1, 0, once(0, 5))), [-5])
        self.assertEqual(last(*full, wait(1, 0, once(9000, 5))), [-5])
        self.assertEqual(last(*full[:-1], wait(1, 0, once(9000, 5))), [23, 1])
        self.assertEqual(last(*full[:-1], wait(1, 0, once(0, 5))), [23, 0])
        self.assertEqual(ask(wait(1, 0, PLAIN)), [[-3]])


class End(unittest.TestCase):
    def test_it_is_booked_no_more(self):
        found = ask(room(5), book(1, 0, EVER), end(0), would(0, EVER), end(0))
        self.assertEqual(found[1:], [[0], [0], [1], [-4]])

    def test_it_waits_no_more(self):
        found = ask(room(5), book(1, 0, EVER), wait(1, 0, PLAIN), end(1), end(1), end(0), would(0, EVER))
        self.assertEqual(found[1:], [[0], [1, 0], [0], [-4], [0], [1]])

    def test_one_that_waited_leaves_its_place_to_the_next(self):
        found = ask(room(5), book(1, 0, EVER), wait(1, 0, PLAIN), wait(1, 0, PLAIN), end(1), end(0), end(2), end(2))
        self.assertEqual(found[1:], [[0], [1, 0], [2, 0], [0], [1, 2], [0], [-4]])

    def test_there_is_none(self):
        self.assertEqual(ask(end(0)), [[-4]])
        self.assertEqual(ask(room(5), end(0), end(99)), [[0], [-4], [-4]])
        self.assertEqual(ask(room(5), book(1, 0, PLAIN), end(1), end(99), end(0)), [[0], [0], [-4], [-4], [0]])

    def test_all_that_ends_makes_place(self):
        full = [room(5), *hours(23), wait(1, 0, once(0, 5))]
        self.assertEqual(ask(*full, end(23), wait(1, 0, once(0, 5)), wait(1, 0, once(0, 5)))[-3:],
                         [[0], [24, 0], [-5]])


class Served(unittest.TestCase):
    def test_none_waits(self):
        self.assertEqual(last(room(5), book(1, 0, EVER), end(0)), [0])

    def test_none_fits(self):
        found = ask(room(5), book(1, 0, once(0, 60)), book(1, 0, once(60, 60)), wait(1, 0, once(30, 60)), end(0),
                    end(1))
        self.assertEqual(found[3:], [[2, 0], [0], [1, 2]])

    def test_who_came_first_is_served_first(self):
        found = ask(room(5), book(1, 0, EVER), *[wait(2, 0, EVER)] * 3, end(0), end(1), end(2), end(3))
        self.assertEqual(found[5:], [[1, 1], [1, 2], [1, 3], [0]])

    def test_several_at_once_in_their_order(self):
        found = ask(room(5), book(1, 0, EVER), wait(1, 0, once(500, 60)), wait(1, 0, once(400, 60)),
                    wait(1, 0, once(450, 60)), wait(1, 0, once(0, 60)), end(0), would(0, once(450, 60)), end(3))
        self.assertEqual(found[6:], [[3, 1, 2, 4], [0, 2, 450], [0]])

    def test_one_that_fits_only_before_another_is_served(self):
        found = ask(room(5), book(1, 0, EVER), wait(1, 0, once(0, 100)), wait(1, 0, once(50, 100)),
                    wait(1, 0, once(100, 100)), end(0), end(1), end(3))
        self.assertEqual(found[5:], [[2, 1, 3], [0], [1, 2]])

    def test_an_earlier_one_that_does_not_fit_does_not_hold_up_a_later_one(self):
        found = ask(room(5), book(1, 0, once(0, 60)), book(1, 0, once(60, 60)), wait(1, 0, once(0, 120)),
                    wait(1, 0, once(0, 60)), end(0), end(1), end(3))
        self.assertEqual(found[5:], [[1, 3], [0], [1, 2]])

    def test_only_in_the_room_that_came_free(self):
        found = ask(room(5), room(5), book(1, 0, EVER), book(1, 1, EVER), wait(1, 1, EVER), wait(1, 0, EVER), end(0),
                    end(1))
        self.assertEqual(found[6:], [[1, 3], [1, 2]])

    def test_one_that_was_served_is_booked(self):
        found = ask(room(5), room(5), book(1, 0, EVER), wait(1, 0, EVER), skip(1, 0), end(0), skip(1, 0),
                    would(0, EVER), any_room(1, 5, EVER))
        self.assertEqual(found[4:], [[-4], [1, 1], [0], [0, 1, DAY], [1, 2]])

    def test_who_waits_is_served_for_ever_plans(self):
        found = ask(room(5), book(1, 0, (0, 60, 59, 0)), wait(1, 0, (DAY, 60, 60, 0)), wait(1, 0, (0, 30, 59, 0)),
                    end(0), end(1))
        self.assertEqual(found[2:], [[1, 0], [2, 0], [1, 1], [1, 2]])

    def test_served_keep_counting_among_24(self):
        found = ask(room(5), book(1, 0, EVER), *[wait(1, 0, once(60 * k, 60)) for k in range(23)], end(0),
                    book(1, 0, once(9000, 5)), book(1, 0, once(9005, 5)))
        self.assertEqual(found[-3:], [[23, *range(1, 24)], [24], [-5]])
