"""Lines made by chance, answered by the program and by a plain model that lays out all times one by one."""

import math
import random
import unittest

from tests.helper import DAY, any_room, ask, book, end, room, skip, wait, would

LINES = 400


def spans(plan, horizon):
    """The times that haven't been given up and begin before the horizon, as pairs of begin and end."""
    first, length, days, times, given_up = plan
    found = []
    k = 0
    while (times == 0 or k < times) and first + k * days * DAY < horizon:
        if k not in given_up:
            found.append((first + k * days * DAY, first + k * days * DAY + length))
        k += 1
    return found


def meet(one, other):
    """The first moment of both, or None."""
    # What comes again in common comes again after the least common multiple of the days; at most ten of these
    # meetings have been given up.
    common = math.lcm(max(one[2], 1), max(other[2], 1))
    horizon = max(one[0], other[0]) + (12 * common + 2) * DAY
    ones = spans(one, horizon)
    others = spans(other, horizon)
    i = 0
    j = 0
    while i < len(ones) and j < len(others):
        begin = max(ones[i][0], others[j][0])
        if begin < min(ones[i][1], others[j][1]):
            return begin
        if ones[i][1] <= others[j][1]:
            i += 1
        else:
            j += 1
    return None


class Model:
    def __init__(self):
        self.rooms = []
        self.booked = {}
        self.waiting = {}
        self.came = 0

    def met(self, number, plan):
        found = []
        for key in sorted(self.booked):
            if self.booked[key][0] == number:
                moment = meet(plan, self.booked[key][1])
                if moment is not None:
                    found.append((moment, key))
        return found

    def wrong(self, when):
        first, length, days, times = when
        fine = first <= 1000000 and 1 <= length <= 1440 and days <= 60
        return not (fine and (times == 1 if days == 0 else times <= 500))

    def full(self):
        return len(self.booked) + len(self.waiting) >= 24

    def take(self, place, number, when):
        place[self.came] = (number, (*when, []))
        self.came += 1
        return self.came - 1

    def serve(self):
        served = []
        again = True
        while again:
            again = False
            for key in sorted(self.waiting):
                if not self.met(*self.waiting[key]):
                    self.booked[key] = self.waiting.pop(key)
                    served.append(key)
                    again = True
                    break
        return [len(served), *served]

    def answer(self, call):
        name = ("room", "book", "would", "any", "wait", "end", "skip")[call[0]]
        return getattr(self, "on_" + name)(*call[1:])

    def on_room(self, seats):
        if not 1 <= seats <= 500:
            return [-1]
        if len(self.rooms) == 5:
            return [-5]
        self.rooms.append(seats)
        return [len(self.rooms) - 1]

    def on_book(self, whom, number, *when):
        if number >= len(self.rooms):
            return [-3]
        if whom > 99 or self.wrong(when):
            return [-1]
        if self.full():
            return [-5]
        if self.met(number, (*when, [])):
            return [-7]
        return [self.take(self.booked, number, when)]

    def on_would(self, number, *when):
        if number >= len(self.rooms):
            return [-3]
        if self.wrong(when):
            return [-1]
        found = self.met(number, (*when, []))
        return [0, min(found)[1], min(found)[0]] if found else [1]

    def on_any(self, whom, seats, *when):
        if whom > 99 or self.wrong(when) or seats == 0:
            return [-1]
        if self.full():
            return [-5]
        fitting = [(has, number) for number, has in enumerate(self.rooms)
                   if has >= seats and not self.met(number, (*when, []))]
        if not fitting:
            return [-7]
        return [min(fitting)[1], self.take(self.booked, min(fitting)[1], when)]

    def on_wait(self, whom, number, *when):
        answer = self.on_book(whom, number, *when)
        if answer == [-7]:
            return [self.take(self.waiting, number, when), 0]
        return answer if answer[0] < 0 else [*answer, 1]

    def on_end(self, key):
        if key in self.waiting:
            self.waiting.pop(key)
            return [0]
        if key not in self.booked:
            return [-4]
        self.booked.pop(key)
        return self.serve()

    def on_skip(self, key, which):
        if key not in self.booked:
            return [-4]
        times = self.booked[key][1][3]
        given_up = self.booked[key][1][4]
        if which in given_up or which > 9999 or (times != 0 and which >= times):
            return [-2]
        if len(given_up) == 5:
            return [-5]
        given_up.append(which)
        return self.serve()


class Chance:
    """Lines by chance, each with plans of a kind that often meet, but not always."""

    def __init__(self, seed):
        self.chance = random.Random(seed)
        self.lengths = self.chance.choice(((1, 60, 120), (700, 1000, 1440), (1, 2, 3), (30, 90, 1440, 1441, 0)))
        self.days = self.chance.choice(((0, 1, 2), (6, 7, 9, 0), (59, 60, 58), (0, 1, 7, 30, 60, 61)))
        self.firsts = self.chance.choice((3, 20, 694))
        self.grain = self.chance.choice((1, 30, 360, 1440))
        self.weights = self.chance.choice(((1, 6, 6, 5, 8, 5, 12), (1, 2, 3, 1, 12, 8, 12), (1, 10, 4, 10, 20, 1, 2)))
        self.asked = 0

    def when(self):
        first = self.chance.randrange(self.firsts) * DAY + self.chance.randrange(0, DAY, self.grain)
        days = self.chance.choice(self.days)
        times = self.chance.choice((0, 0, 0, 1, 2, 5, 60, 500)) if days else self.chance.choice((1,) * 12 + (0, 2))
        return (first, self.chance.choice(self.lengths), days, times)

    def call(self):
        kind = self.chance.choices(range(7), self.weights)[0]
        whom = self.chance.choice((0, 1, 2, 5, 50, 97, 98, 99, 99, 100))
        number = self.chance.choice((0, 0, 0, 0, 0, 0, 1, 1, 1, 2))
        seats = self.chance.choice((1, 1, 10, 10, 20, 20, 30, 0, 501))
        booked = self.chance.randrange(self.asked // 2 + 1)
        self.asked += 1
        which = self.chance.choice((0, 0, 0, 1, 1, 1, 2, 2, 3, 4, 5, 59, 119, 9999, 10000))
        return (room(seats), book(whom, number, self.when()), would(number, self.when()),
                any_room(whom, seats, self.when()), wait(whom, number, self.when()), end(booked),
                skip(booked, which))[kind]

    def line(self):
        return [room(20), room(10), *[self.call() for k in range(50)]]


class AgainstModel(unittest.TestCase):
    def test_lines_by_chance(self):
        for seed in range(LINES):
            calls = Chance(seed).line()
            model = Model()
            with self.subTest(seed=seed):
                self.assertEqual(ask(*calls), [model.answer(call) for call in calls])
