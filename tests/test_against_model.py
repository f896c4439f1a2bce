"""Lines made by chance, answered by the program and by a plain model that lays out all times one by one."""

import math
import random
import unittest

from roomsforever.rooms import answers
from tests.helper import (
    DAY, FAR, MOST_CALLS, Watched, any_room, ask, at, book, cut, end, free, line_of, next_time, queue, room, skip,
    tell, used, wait, would,
)

LINES = 600

NAMES = ("room", "book", "would", "any", "wait", "end", "skip", "cut", "at", "next", "free", "used", "tell", "queue")

REFUSALS = {
    "room": (-1, -5), "book": (-3, -1, -5, -7), "would": (-3, -1), "any": (-1, -5, -7), "wait": (-3, -1, -5),
    "end": (-4,), "skip": (-4, -2, -5), "cut": (-4, -2), "at": (-3,), "next": (-3, -6), "free": (-3, -6),
    "used": (-3, -1), "tell": (-4,), "queue": (),
}

# The calls that change nothing, whatever they answer.
ASKING = ("would", "at", "next", "free", "used", "tell", "queue")


def spans(plan, horizon):
    """The times that haven't been given up and begin before the horizon, as pairs of begin and end."""
    first, length, days, times, given_up = plan
    found = []
    k = 0
    while (times == 0 or k < times) and first + k * days * DAY < horizon:
        if k not in given_up:
            found.append((first + k * days * DAY, first + k * days * DAY + length))
        k += 1
    return found


def meet(one, other):
    """The first moment of both, or None."""
    # What comes again in common comes again after the least common multiple of the days; at most ten of these
    # meetings have been given up.
    common = math.lcm(max(one[2], 1), max(other[2], 1))
    horizon = max(one[0], other[0]) + (12 * common + 2) * DAY
    ones = spans(one, horizon)
    others = spans(other, horizon)
    i = 0
    j = 0
    while i < len(ones) and j < len(others):
        begin = max(ones[i][0], others[j][0])
        if begin < min(ones[i][1], others[j][1]):
            return begin
        if ones[i][1] <= others[j][1]:
            i += 1
        else:
            j += 1
    return None


class Model:
    def __init__(self):
        self.rooms = []
        self.booked = {}
        self.waiting = {}
        self.came = 0

    def met(self, number, plan):
        found = []
        for key in sorted(self.booked):
            if self.booked[key][1] == number:
                moment = meet(plan, self.booked[key][2])
                if moment is not None:
                    found.append((moment, key))
        return found

    def wrong(self, when):
        first, length, days, times = when
        fine = first <= 1000000 and 1 <= length <= 1440 and days <= 60
        return not (fine and (times == 1 if days == 0 else times <= 500))

    def full(self):
        return len(self.booked) + len(self.waiting) >= 24

    def take(self, place, whom, number, when):
        place[self.came] = (whom, number, (*when, []))
        self.came += 1
        return self.came - 1

    def serve(self):
        served = []
        again = True
        while again:
            again = False
            for key in sorted(self.waiting):
                if not self.met(*self.waiting[key][1:]):
                    self.booked[key] = self.waiting.pop(key)
                    served.append(key)
                    again = True
                    break
        return [len(served), *served]

    def answer(self, call):
        return getattr(self, "on_" + NAMES[call[0]])(*call[1:])

    def on_room(self, seats):
        if not 1 <= seats <= 500:
            return [-1]
        if len(self.rooms) == 5:
            return [-5]
        self.rooms.append(seats)
        return [len(self.rooms) - 1]

    def on_book(self, whom, number, *when):
        if number >= len(self.rooms):
            return [-3]
        if whom > 99 or self.wrong(when):
            return [-1]
        if self.full():
            return [-5]
        if self.met(number, (*when, [])):
            return [-7]
        return [self.take(self.booked, whom, number, when)]

    def on_would(self, number, *when):
        if number >= len(self.rooms):
            return [-3]
        if self.wrong(when):
            return [-1]
        found = self.met(number, (*when, []))
        return [0, min(found)[1], min(found)[0]] if found else [1]

    def on_any(self, whom, seats, *when):
        if whom > 99 or self.wrong(when) or seats == 0:
            return [-1]
        if self.full():
            return [-5]
        fitting = [(has, number) for number, has in enumerate(self.rooms)
                   if has >= seats and not self.met(number, (*when, []))]
        if not fitting:
            return [-7]
        return [min(fitting)[1], self.take(self.booked, whom, min(fitting)[1], when)]

    def on_wait(self, whom, number, *when):
        answer = self.on_book(whom, number, *when)
        if answer == [-7]:
            return [self.take(self.waiting, whom, number, when), 0]
        return answer if answer[0] < 0 else [*answer, 1]

    def on_end(self, key):
        if key in self.waiting:
            self.waiting.pop(key)
            return [0]
        if key not in self.booked:
            return [-4]
        self.booked.pop(key)
        return self.serve()

    def on_skip(self, key, which):
        if key not in self.booked:
            return [-4]
        times, given_up = self.booked[key][2][3:]
        if which in given_up or which > 9999 or (times != 0 and which >= times):
            return [-2]
        if len(given_up) == 5:
            return [-5]
        given_up.append(which)
        return self.serve()

    def on_cut(self, key, many):
        if key not in self.booked:
            return [-4]
        whom, number, (first, length, days, times, given_up) = self.booked[key]
        if days == 0 or not 1 <= many <= 500 or 0 < times <= many:
            return [-2]
        self.booked[key] = (whom, number, (first, length, days, many, given_up))
        return self.serve()

    def times(self, number, horizon):
        """All times in the room that begin before the horizon: begin, end, the number of what has it."""
        return sorted((begin, behind, key) for key, (whom, place, plan) in self.booked.items() if place == number
                      for begin, behind in spans(plan, horizon))

    def on_at(self, number, moment):
        if number >= len(self.rooms):
            return [-3]
        for begin, behind, key in self.times(number, moment + 1):
            if begin <= moment < behind:
                return [1, key, self.booked[key][0]]
        return [0]

    def on_next(self, number, moment):
        if number >= len(self.rooms):
            return [-3]
        # At most five times are given up, and no two are more than 60 days apart.
        horizon = max(moment, 1000000) + 6 * 60 * DAY + 1
        for begin, behind, key in self.times(number, horizon):
            if begin >= moment:
                return [begin, key]
        return [-6]

    def on_free(self, number, moment):
        if self.on_at(number, moment)[0] == 1:
            return [0]
        coming = self.on_next(number, moment)
        return coming if coming[0] < 0 else [coming[0] - moment]

    def on_used(self, number, moment, until):
        if number >= len(self.rooms):
            return [-3]
        if not 0 <= until - moment <= 200000:
            return [-1]
        return [sum(max(0, min(behind, until) - max(begin, moment))
                    for begin, behind, key in self.times(number, until))]

    def on_tell(self, key):
        if key not in self.booked and key not in self.waiting:
            return [-4]
        whom, number, plan = self.booked[key] if key in self.booked else self.waiting[key]
        return [int(key in self.booked), whom, number, *plan[:4], len(plan[4]), *plan[4]]

    def on_queue(self):
        return [len(self.waiting), *sorted(self.waiting)]


class Chance:
    """Lines by chance, each with plans of a kind that often meet, but not always."""

    def __init__(self, seed):
        self.chance = random.Random(seed)
        self.lengths = self.chance.choice(((1, 60, 120), (700, 1000, 1440), (1, 2, 3), (30, 90, 1440, 1441, 0)))
        self.days = self.chance.choice(((0, 1, 2), (6, 7, 9, 0), (59, 60, 58), (0, 1, 7, 30, 60, 61)))
        self.firsts = self.chance.choice((1, 3, 20, 694))
        self.grain = self.chance.choice((1, 30, 360, 1440))
        self.weights = self.chance.choice((
            (1, 6, 6, 5, 8, 5, 9, 5, 3, 3, 3, 3, 3, 1), (1, 2, 3, 1, 12, 8, 12, 8, 1, 1, 1, 1, 3, 3),
            (1, 10, 4, 10, 20, 1, 2, 1, 2, 2, 2, 2, 1, 1), (1, 4, 1, 4, 2, 1, 4, 3, 7, 7, 7, 7, 1, 1),
            (12, 4, 1, 4, 2, 1, 4, 3, 2, 2, 2, 2, 1, 1),
        ))
        # The higher, the more often the same few are cut, and give up times.
        self.crowding = self.chance.choice((2, 2, 3, 10, 40))
        # How often a plan begins at a time of another, or just beside it.
        self.nearness = self.chance.choice((0, 0.3, 0.8))
        self.asked = 0
        self.made = [(0, 60, 1)]

    def when(self):
        first = self.chance.randrange(self.firsts) * DAY + self.chance.randrange(0, DAY, self.grain)
        if self.chance.random() < self.nearness:
            first = min(1000000, self.moment())
        days = self.chance.choice(self.days)
        times = self.chance.choice((0, 0, 0, 1, 2, 5, 60, 500)) if days else self.chance.choice((1,) * 12 + (0, 2))
        length = self.chance.choice(self.lengths)
        self.made.append((first, length, days))
        return (first, length, days, times)

    def moment(self):
        """A moment at one of the times, most often at its begin or end or just beside them."""
        first, length, days = self.chance.choice(self.made)
        which = self.chance.choice((0, 0, 0, 0, 0, 0, 1, 1, 1, 2, 2, 3, 4, 5, 59, 60, 119, 499, 500, 2700))
        beside = self.chance.choice((-1, 0, 1, length - 1, length, length // 2, DAY, -DAY))
        return max(0, min(FAR, first + which * days * DAY + beside))

    def until(self, moment):
        return max(0, min(FAR, moment + self.chance.choice((0, 1, 2, 60, DAY, 3 * DAY, 9999, 200000, 200001, -1))))

    def call(self):
        name = self.chance.choices(NAMES, self.weights)[0]
        whom = self.chance.choice((*range(9), 50, 97, 98, 99, 100))
        number = self.chance.choice((0, 0, 0, 0, 0, 0, 1, 1, 1, 2))
        seats = self.chance.choice((1, 1, 10, 10, 20, 20, 30, 0, 501))
        ended = self.chance.randrange(self.asked // 3 + 1)
        booked = self.chance.randrange(self.asked // self.crowding + 1)
        self.asked += 1
        which = self.chance.choice((0, 0, 0, 1, 1, 1, 2, 2, 3, 4, 5, 6, 7, 59, 119, 9999, 10000))
        many = self.chance.choice((0, 1, 1, 2, 2, 3, 4, 5, 59, 60, 119, 499, 500, 501, 20000))
        moment = self.moment()
        calls = {
            "room": lambda: room(seats), "book": lambda: book(whom, number, self.when()),
            "would": lambda: would(number, self.when()), "any": lambda: any_room(whom, seats, self.when()),
            "wait": lambda: wait(whom, number, self.when()), "end": lambda: end(ended),
            "skip": lambda: skip(booked, which), "cut": lambda: cut(booked, many), "at": lambda: at(number, moment),
            "next": lambda: next_time(number, moment), "free": lambda: free(number, moment),
            "used": lambda: used(number, moment, self.until(moment)), "tell": lambda: tell(booked),
            "queue": lambda: queue(),
        }
        return calls[name]()

    def line(self, many=MOST_CALLS):
        return [room(20), room(10), *[self.call() for k in range(many - 2)]]


class AgainstModel(unittest.TestCase):
    def test_lines_by_chance(self):
        seen = set()
        for seed in range(LINES):
            calls = Chance(seed).line()
            model = Model()
            with self.subTest(seed=seed):
                found = ask(*calls)
                self.assertEqual(found, [model.answer(call) for call in calls])
            seen.update((NAMES[call[0]], min(answer[0], 0)) for call, answer in zip(calls, found))
        # So that these lines are known to come upon each call, and upon each refusal of each.
        self.assertEqual(seen, {(name, answer) for name in NAMES for answer in (0, *REFUSALS[name])})


class MixedLines(unittest.TestCase):
    def without(self, calls, found, dropped):
        """The answers that are left, and those to the line without the calls that are dropped."""
        left = [(call, answer) for call, answer in zip(calls, found) if not dropped(call, answer)]
        return [answer for call, answer in left], ask(*[call for call, answer in left])

    def test_a_refusal_changes_nothing(self):
        for seed in range(LINES):
            calls = Chance(seed).line()
            with self.subTest(seed=seed):
                self.assertEqual(*self.without(calls, ask(*calls), lambda call, answer: answer[0] < 0))

    def test_asking_changes_nothing(self):
        for seed in range(LINES):
            calls = Chance(seed).line()
            with self.subTest(seed=seed):
                self.assertEqual(*self.without(calls, ask(*calls), lambda call, answer: NAMES[call[0]] in ASKING))

    def test_the_list_stays_as_it_was(self):
        for seed in range(LINES):
            line = line_of(Chance(seed).line())
            watched = Watched(line)
            with self.subTest(seed=seed):
                self.assertEqual(answers(watched), answers(line))
                self.assertEqual(list(watched), line)

    def test_nothing_is_kept_from_one_time_to_the_next(self):
        lines = [line_of(Chance(seed).line()) for seed in range(LINES)]
        forward = [answers(line) for line in lines]
        backward = [answers(line) for line in reversed(lines)]
        self.assertEqual(forward, backward[::-1])

    def test_a_line_is_answered_like_its_beginning(self):
        for seed in range(0, LINES, 10):
            calls = Chance(seed).line()
            found = ask(*calls)
            for many in range(1, len(calls)):
                with self.subTest(seed=seed, many=many):
                    self.assertEqual(ask(*calls[:many]), found[:many])

    def test_none_is_had_by_two_and_none_waits_that_fits(self):
        for seed in range(LINES):
            calls = Chance(seed).line(30)
            told = [answer for answer in ask(*calls, *[tell(key) for key in range(29)])[30:] if answer[0] >= 0]
            plans = [(answer[0], answer[2], (*answer[3:7], answer[8:])) for answer in told]
            with self.subTest(seed=seed):
                for k, (booked, number, plan) in enumerate(plans):
                    met = [other for j, (had, place, other) in enumerate(plans)
                           if j != k and had and place == number and meet(plan, other) is not None]
                    self.assertEqual(not met, bool(booked))
