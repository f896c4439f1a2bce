"""The calls on a house of rooms, read from one list of whole numbers and answered in another."""

from roomsforever.house import House
from roomsforever.plans import MOST_TIMES, plan_of

MOST_SEATS = 500
MOST_WHOM = 99
MOST_WHICH = 9999
MOST_GIVEN_UP = 5
MOST_STRETCH = 200000

NOT_AS_TOLD = -1
NO_SUCH_TIME = -2
NO_ROOM = -3
NOT_HELD = -4
TOO_MANY = -5
NONE_TO_COME = -6
NO_FIT = -7


def answer_room(house, numbers):
    seats = numbers[0]
    if seats < 1 or seats > MOST_SEATS:
        return [NOT_AS_TOLD]
    if house.has_all_rooms():
        return [TOO_MANY]
    return [house.add_room(seats)]


def answer_book(house, numbers):
    whom = numbers[0]
    room = numbers[1]
    plan = plan_of(numbers[2:])
    if not house.has_room(room):
        return [NO_ROOM]
    if whom > MOST_WHOM or plan is None:
        return [NOT_AS_TOLD]
    if house.is_full():
        return [TOO_MANY]
    if not house.fits(room, plan):
        return [NO_FIT]
    return [house.hold(whom, room, plan, False)]


def answer_would(house, numbers):
    room = numbers[0]
    plan = plan_of(numbers[1:])
    if not house.has_room(room):
        return [NO_ROOM]
    if plan is None:
        return [NOT_AS_TOLD]
    meetings = house.meetings(room, plan)
    if len(meetings) == 0:
        return [1]
    # Pairs are compared by the moment, then by the number: so the least number wins of several at one moment.
    earliest = min(meetings)
    return [0, earliest[1], earliest[0]]


def answer_any(house, numbers):
    whom = numbers[0]
    seats = numbers[1]
    plan = plan_of(numbers[2:])
    if whom > MOST_WHOM or seats == 0 or plan is None:
        return [NOT_AS_TOLD]
    if house.is_full():
        return [TOO_MANY]
    for room in house.rooms_with(seats):
        if house.fits(room, plan):
            return [room, house.hold(whom, room, plan, False)]
    return [NO_FIT]


def answer_wait(house, numbers):
    # It's booked wherever book would book it, and refused by the same but for not fitting.
    answer = answer_book(house, numbers)
    if answer == [NO_FIT]:
        plan = plan_of(numbers[2:])
        return [house.hold(numbers[0], numbers[1], plan, True), 0]
    if answer[0] < 0:
        return answer
    return answer + [1]


def answer_served(house):
    """Serve who waits; how many were served, and their numbers."""
    served = house.serve()
    return [len(served)] + served


def answer_end(house, numbers):
    number = numbers[0]
    if number not in house.held:
        return [NOT_HELD]
    house.let_go(number)
    # Where it only waited nothing has come free, and so none is served.
    return answer_served(house)


def answer_skip(house, numbers):
    which = numbers[1]
    booking = house.find_booked(numbers[0])
    if booking is None:
        return [NOT_HELD]
    plan = booking.plan
    if which > MOST_WHICH or not plan.has_time(which) or plan.has_given_up(which):
        return [NO_SUCH_TIME]
    if len(plan.given_up) >= MOST_GIVEN_UP:
        return [TOO_MANY]
    plan.given_up.append(which)
    return answer_served(house)


def answer_cut(house, numbers):
    many = numbers[1]
    booking = house.find_booked(numbers[0])
    if booking is None:
        return [NOT_HELD]
    plan = booking.plan
    if plan.days == 0 or many < 1 or many > MOST_TIMES:
        return [NO_SUCH_TIME]
    # Times are counted from 0: it is more than so many now if it has the time of that number.
    if not plan.has_time(many):
        return [NO_SUCH_TIME]
    plan.times = many
    return answer_served(house)


def answer_at(house, numbers):
    room = numbers[0]
    if not house.has_room(room):
        return [NO_ROOM]
    booking = house.who_has(room, numbers[1])
    if booking is None:
        return [0]
    return [1, booking.number, booking.whom]


def answer_next(house, numbers):
    room = numbers[0]
    if not house.has_room(room):
        return [NO_ROOM]
    coming = house.next_time(room, numbers[1])
    if coming is None:
        return [NONE_TO_COME]
    return [coming[0], coming[1]]


def answer_free(house, numbers):
    room = numbers[0]
    moment = numbers[1]
    if not house.has_room(room):
        return [NO_ROOM]
    # Asked first: a room that's had now isn't free for ever, also if no other time begins there.
    if house.who_has(room, moment) is not None:
        return [0]
    coming = house.next_time(room, moment)
    if coming is None:
        return [NONE_TO_COME]
    return [coming[0] - moment]


def answer_used(house, numbers):
    room = numbers[0]
    moment = numbers[1]
    until = numbers[2]
    if not house.has_room(room):
        return [NO_ROOM]
    if until < moment or until - moment > MOST_STRETCH:
        return [NOT_AS_TOLD]
    return [house.minutes_used(room, moment, until)]


def answer_tell(house, numbers):
    booking = house.held.get(numbers[0])
    if booking is None:
        return [NOT_HELD]
    plan = booking.plan
    booked = 0 if booking.waits else 1
    when = [plan.first, plan.length, plan.days, plan.times]
    return [booked, booking.whom, booking.room] + when + [len(plan.given_up)] + plan.given_up


def answer_queue(house, numbers):
    waiting = house.waiting()
    return [len(waiting)] + waiting


# Each call stands at its number: how many numbers it takes, and what answers it.
CALLS = (
    (1, answer_room),
    (6, answer_book),
    (5, answer_would),
    (6, answer_any),
    (6, answer_wait),
    (1, answer_end),
    (2, answer_skip),
    (2, answer_cut),
    (2, answer_at),
    (2, answer_next),
    (2, answer_free),
    (3, answer_used),
    (1, answer_tell),
    (0, answer_queue),
)


def answers(calls):
    """Answer the calls, one behind another, on a new house; each answer with its length before it."""
    house = House()
    given = []
    place = 0
    while place < len(calls):
        call = CALLS[calls[place]]
        begin = place + 1
        place = begin + call[0]
        answerer = call[1]
        answer = answerer(house, calls[begin:place])
        given.append(len(answer))
        given.extend(answer)
    return given
