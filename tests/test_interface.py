"""The interface: how the list is read, what is given back, and that nothing else is done or kept."""

import contextlib
import io
import sys
import unittest

from roomsforever.rooms import answers
from tests.helper import (
    DAY, EVER, FAR, PLAIN, Watched, any_room, ask, at, book, cut, end, free, hours, line_of, next_time, once, queue,
    room, skip, tell, used, wait, would,
)

BUSY = [
    room(5), room(8), book(1, 0, PLAIN), would(0, (DAY, 60, 9, 0)), wait(2, 0, (DAY, 60, 9, 0)), skip(0, 4),
    any_room(3, 6, EVER), any_room(3, 5, EVER), wait(4, 1, PLAIN), end(2), skip(0, 5), end(0), room(0), end(0),
    wait(5, 1, once(0, 30)), end(3), tell(1), at(0, 28 * DAY + 59), next_time(0, 0), free(0, 0), used(0, 0, 20 * DAY),
    cut(1, 2), used(0, 0, 20 * DAY), free(0, 10 * DAY + 60), wait(6, 0, EVER), queue(), skip(1, 1), cut(1, 1), tell(1),
    book(7, 0, PLAIN), end(1), queue(), at(0, FAR), end(5), next_time(0, 0),
]

BUSY_ANSWERS = [
    [0], [1], [0], [0, 0, 28 * DAY], [1, 0], [0],
    [1, 2], [-7], [3, 0], [1, 3], [0], [1, 1], [-1], [-4],
    [4, 0], [1, 4], [1, 2, 0, DAY, 60, 9, 0, 0], [1, 1, 2], [DAY, 1], [DAY], [180],
    [0], [120], [-6], [5, 0], [1, 5], [0], [0], [1, 2, 0, DAY, 60, 9, 1, 1, 1],
    [6], [0], [1, 5], [0], [0], [0, 6],
]

REFUSED = [
    (room(0), -1), (room(501), -1),
    (book(1, 9, EVER), -3), (book(100, 0, once(9000, 5)), -1), (book(1, 0, once(9000, 0)), -1),
    (would(9, EVER), -3), (would(0, (0, 60, 61, 0)), -1),
    (any_room(100, 1, once(9000, 5)), -1), (any_room(1, 0, once(9000, 5)), -1), (any_room(1, 1, (0, 1, 0, 2)), -1),
    (any_room(1, 501, once(9000, 5)), -7),
    (wait(1, 9, EVER), -3), (wait(100, 0, EVER), -1), (wait(1, 0, (0, 1, 1, 501)), -1),
    (end(99), -4), (skip(99, 0), -4), (cut(99, 1), -4), (at(9, 0), -3), (next_time(9, 0), -3), (free(9, 0), -3),
    (used(9, 0, 0), -3), (used(0, 1, 0), -1), (used(0, 0, 200001), -1), (tell(99), -4),
]


class Interface(unittest.TestCase):
    def test_counts_stand_before_the_answers(self):
        self.assertEqual(answers([0, 10]), [1, 0])
        self.assertEqual(answers([0, 0]), [1, -1])
        self.assertEqual(answers([0, 10, 4, 1, 0, 0, 60, 7, 0, 2, 0, 30, 5, 0, 1, 5, 0]),
                         [1, 0, 2, 0, 1, 3, 0, 0, 30, 1, 0])
        self.assertEqual(answers([0, 10, 3, 1, 5, 0, 60, 7, 0, 4, 2, 0, 0, 5, 0, 1, 6, 0, 0, 1, 3, 0, 0, 5, 0, 1]),
                         [1, 0, 2, 0, 0, 2, 1, 0, 2, 1, 1, 1, -7])
        self.assertEqual(answers([13, 12, 0, 11, 0, 0, 0, 10, 0, 0, 9, 0, 0, 8, 0, 0, 7, 0, 1, 13]),
                         [1, 0, 1, -4, 1, -3, 1, -3, 1, -3, 1, -3, 1, -4, 1, 0])
        self.assertEqual(answers([0, 10, 1, 8, 0, 5, 60, 7, 0, 4, 9, 0, 0, 60, 7, 0, 13, 8, 0, 5, 8, 0, 4, 9, 0, 6,
                                  10, 0, 0, 11, 0, 0, 10, 6, 0, 3, 12, 0, 7, 0, 500, 12, 1, 10, 0, 4000000, 13]),
                         [1, 0, 1, 0, 2, 1, 0, 2, 1, 1, 3, 1, 0, 8, 1, 0, 2, 10085, 0,
                          1, 5, 1, 5, 1, 0, 9, 1, 8, 0, 5, 60, 7, 0, 1, 3, 1, 0, 8, 0, 9, 0, 0, 60, 7, 0, 0, 1, 1765,
                          2, 1, 1])

    def test_a_line_of_all_these_calls(self):
        self.assertEqual(ask(*BUSY), BUSY_ANSWERS)

    def test_a_line_of_60_calls(self):
        self.assertEqual(ask(*[book(200, 20, (2000000, 3000, 100, 1000))] * 60), [[-3]] * 60)
        self.assertEqual(ask(room(5), *[would(0, EVER)] * 59), [[0]] + [[1]] * 59)
        self.assertEqual(ask(*[queue()] * 60), [[0]] * 60)
        self.assertEqual(ask(*[used(20, FAR, 0)] * 60), [[-3]] * 60)

    def test_the_list_is_as_it_was(self):
        line = line_of(BUSY)
        before = list(line)
        answers(line)
        self.assertEqual(line, before)

    def test_the_list_is_not_changed_for_a_while_either(self):
        self.assertEqual(answers(Watched(line_of(BUSY))), answers(line_of(BUSY)))

    def test_nothing_is_kept(self):
        line = line_of(BUSY)
        found = answers(line)
        copy = list(found)
        self.assertEqual(answers(line), copy)
        found.clear()
        self.assertEqual(answers(line), copy)
        self.assertEqual(ask(book(1, 0, PLAIN)), [[-3]])
        self.assertEqual(ask(room(5), end(0), would(0, EVER)), [[0], [-4], [1]])
        self.assertEqual(ask(queue(), tell(1), at(0, 0), room(5), free(0, 0), used(0, 0, DAY)),
                         [[0], [-4], [-3], [0], [-6], [0]])

    def test_a_list_of_whole_numbers(self):
        found = answers(line_of(BUSY))
        self.assertIs(type(found), list)
        self.assertEqual({type(number) for number in found}, {int})

    def test_it_prints_nothing(self):
        out = io.StringIO()
        with contextlib.redirect_stdout(out), contextlib.redirect_stderr(out):
            answers(line_of(BUSY))
        self.assertEqual(out.getvalue(), "")

    def test_nothing_changes_by_a_refusal(self):
        for place in range(1, len(BUSY) + 1):
            for call, answer in REFUSED:
                with self.subTest(place=place, call=call):
                    found = ask(*BUSY[:place], call, *BUSY[place:])
                    self.assertEqual(found[place], [answer])
                    self.assertEqual(found[:place] + found[place + 1:], BUSY_ANSWERS)

    def test_nothing_changes_by_a_refusal_at_a_bound(self):
        full = [*[room(5)] * 5, *hours(23), wait(1, 0, once(0, 30)), *[skip(0, 0)]]
        behind = [end(22), book(1, 0, once(9000, 5)), book(1, 0, once(9005, 5)), room(6)]
        expected = ask(*full, *behind)
        self.assertEqual(expected[-5:], [[1, 23], [0], [24], [-5], [-5]])
        for call in (room(5), book(1, 0, once(9000, 5)), any_room(1, 1, once(9000, 5)), wait(1, 0, once(9000, 5)),
                     wait(1, 0, once(60, 5))):
            with self.subTest(call):
                found = ask(*full, call, *behind)
                self.assertEqual(found[len(full)], [-5])
                self.assertEqual(found[:len(full)] + found[len(full) + 1:], expected)

    def test_nothing_changes_by_a_refused_skip(self):
        line = [room(5), book(1, 0, (0, 60, 1, 7)), *[skip(0, k) for k in range(5)]]
        behind = [would(0, (0, 60, 1, 0)), tell(0), skip(0, 6), end(0)]
        for call, answer in ((skip(0, 5), -5), (skip(0, 7), -2), (skip(0, 4), -2), (skip(0, 10000), -2)):
            with self.subTest(call):
                self.assertEqual(ask(*line, call, *behind)[7:], [[answer], [0, 0, 5 * DAY],
                                                                [1, 1, 0, 0, 60, 1, 7, 5, 0, 1, 2, 3, 4], [-5], [0]])


def widest_line():
    """Plans that meet as late as may be, with as many times given up as may be."""
    late = [skip(0, 70 + 60 * k) for k in range(5)]
    return [room(5), book(1, 0, (640 + 44 * DAY, 1, 59, 0)), *late, *[wait(1, 0, (1000000, 1, 60, 0))] * 20,
            *[would(0, (1000000, 1, 60, 0))] * 20, end(0)]


class Effort(unittest.TestCase):
    def count_steps(self, line):
        steps = [0]

        def trace(frame, event, detail):
            steps[0] += 1
            return trace

        before = sys.gettrace()
        sys.settrace(trace)
        try:
            answers(line)
        finally:
            sys.settrace(before)
        return steps[0]

    def test_what_is_far_ahead_is_told_at_once(self):
        first = widest_line()[:7]
        asked = [*first, would(0, (1000000, 1, 60, 0))]
        self.assertEqual(ask(*asked)[-1], [0, 0, 640 + (4174 + 5 * 3540) * DAY])
        far = self.count_steps(line_of(asked)) - self.count_steps(line_of(first))
        self.assertLess(far, 1000)
        self.assertLess(self.count_steps(line_of(widest_line())), 100000)

    def test_a_moment_far_out_is_asked_of_at_once(self):
        first = [room(5), book(1, 0, (0, 60, 1, 0)), skip(0, 2777)]
        for call, answer in ((at(0, FAR), [0]), (next_time(0, FAR), [2778 * DAY, 0]), (free(0, FAR), [320]),
                             (used(0, FAR - DAY, FAR), [0])):
            with self.subTest(call):
                self.assertEqual(ask(*first, call)[-1], answer)
                self.assertLess(self.count_steps(line_of([*first, call])) - self.count_steps(line_of(first)), 200)

    def test_few_calls_within_one_another(self):
        depth = 0
        frame = sys._getframe()
        while frame is not None:
            depth += 1
            frame = frame.f_back
        before = sys.getrecursionlimit()
        sys.setrecursionlimit(depth + 30)
        try:
            found = answers(line_of(widest_line()))
        finally:
            sys.setrecursionlimit(before)
        self.assertEqual(found[-3:], [2, 1, 1])
