"""Builds lines of calls and takes their answers apart, call by call."""

from roomsforever.rooms import answers

DAY = 1440
MOST_CALLS = 60
MOST_NUMBERS = 420

# The last moment that is ever asked of.
FAR = 4000000

# An hour each week for ever, and all of each day for ever.
PLAIN = (0, 60, 7, 0)
EVER = (0, 1440, 1, 0)


class Watched(list):
    """A list that doesn't allow to be changed."""

    def refuse(self, *numbers, **names):
        raise AssertionError("what was handed in is changed")

    append = extend = insert = pop = remove = clear = sort = reverse = refuse
    __setitem__ = __delitem__ = __iadd__ = __imul__ = refuse


def room(seats):
    return [0, seats]


def book(whom, number, when):
    return [1, whom, number, *when]


def would(number, when):
    return [2, number, *when]


def any_room(whom, seats, when):
    return [3, whom, seats, *when]


def wait(whom, number, when):
    return [4, whom, number, *when]


def end(booked):
    return [5, booked]


def skip(booked, which):
    return [6, booked, which]


def cut(booked, many):
    return [7, booked, many]


def at(number, moment):
    return [8, number, moment]


def next_time(number, moment):
    return [9, number, moment]


def free(number, moment):
    return [10, number, moment]


def used(number, moment, until):
    return [11, number, moment, until]


def tell(booked):
    return [12, booked]


def queue():
    return [13]


def once(first, length):
    return (first, length, 0, 1)


def line_of(calls):
    line = [number for call in calls for number in call]
    assert 1 <= len(calls) <= MOST_CALLS and len(line) <= MOST_NUMBERS, "no line that the document allows"
    return line


def split(given):
    found = []
    place = 0
    while place < len(given):
        behind = place + 1 + given[place]
        assert given[place] >= 1 and behind <= len(given), "a count that is not as told"
        found.append(given[place + 1:behind])
        place = behind
    return found


def ask(*calls):
    """The answers to the calls, a list for each."""
    found = split(answers(line_of(calls)))
    assert len(found) == len(calls), "not one answer for each call"
    return found


def last(*calls):
    """The answer to the last of the calls."""
    return ask(*calls)[-1]


def hours(count, number=0):
    """Books that many different hours of the first days in a room."""
    return [book(1, number, once(60 * k, 60)) for k in range(count)]
