"""A house: its rooms, what is booked in them, and what waits for them."""

from roomsforever.plans import first_meeting

MOST_ROOMS = 5
MOST_HELD = 24


class Booking:
    """For whom a room is booked by a plan, or waited for."""

    def __init__(self, number, whom, room, plan, waits):
        self.number = number
        self.whom = whom
        self.room = room
        self.plan = plan
        self.waits = waits


class House:
    """Rooms by their numbers, and what is booked or waits by its number, in the order in which it came."""

    def __init__(self):
        self.seats = []
        self.held = {}
        self.came = 0

    def has_room(self, room):
        return room < len(self.seats)

    def has_all_rooms(self):
        return len(self.seats) >= MOST_ROOMS

    def add_room(self, seats):
        """Add a room; its number."""
        self.seats.append(seats)
        return len(self.seats) - 1

    def rooms_with(self, seats):
        """The rooms that have so many seats or more, those with the fewest ahead."""
        rooms = [room for room in range(len(self.seats)) if self.seats[room] >= seats]
        return sorted(rooms, key=lambda room: (self.seats[room], room))

    def is_full(self):
        return len(self.held) >= MOST_HELD

    def find_booked(self, number):
        """What is booked under this number, or None: also if it waits."""
        booking = self.held.get(number)
        if booking is None or booking.waits:
            return None
        return booking

    def booked_in(self, room):
        return [booking for booking in self.held.values() if booking.room == room and not booking.waits]

    def waiting(self):
        """The numbers of those who wait, in the order in which they came."""
        return [booking.number for booking in self.held.values() if booking.waits]

    def who_has(self, room, moment):
        """What is booked and has the room at this moment, or None."""
        for booking in self.booked_in(room):
            if booking.plan.has_moment(moment):
                return booking
        return None

    def next_time(self, room, moment):
        """The first moment from this one on at which a time begins there, with what is booked then; or None."""
        found = []
        for booking in self.booked_in(room):
            begin = booking.plan.next_beginning(moment)
            if begin is not None:
                found.append((begin, booking.number))
        return min(found, default=None)

    def minutes_used(self, room, moment, until):
        # No two that are booked in a room have a minute in common, so none is counted twice.
        return sum([booking.plan.minutes_had(moment, until) for booking in self.booked_in(room)])

    def meetings(self, room, plan):
        """The first moment at which the plan meets each that is booked there, with that one's number."""
        found = []
        for booking in self.booked_in(room):
            moment = first_meeting(plan, booking.plan)
            if moment is not None:
                found.append((moment, booking.number))
        return found

    def fits(self, room, plan):
        return len(self.meetings(room, plan)) == 0

    def hold(self, whom, room, plan, waits):
        """Book it, or let it wait; its number."""
        number = self.came
        self.held[number] = Booking(number, whom, room, plan, waits)
        # Counted apart from what is held, so that the number of what has ended isn't used again.
        self.came += 1
        return number

    def let_go(self, number):
        self.held.pop(number)

    def serve(self):
        """Book those who wait, as long as one of them fits; their numbers, in the order in which they were."""
        served = []
        # Once over is enough: one that didn't fit fits no better after others have been booked.
        for booking in self.held.values():
            if booking.waits and self.fits(booking.room, booking.plan):
                booking.waits = False
                served.append(booking.number)
        return served
