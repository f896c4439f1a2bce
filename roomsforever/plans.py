"""Plans: the times at which a room is had, and the first moment at which two plans meet."""

DAY = 1440
MOST_FIRST = 1000000
MOST_LENGTH = 1440
MOST_DAYS = 60
MOST_TIMES = 500
FOR_EVER = 0


class Plan:
    """Times of one length, so many days apart; some of them may have been given up."""

    def __init__(self, first, length, days, times):
        self.first = first
        self.length = length
        self.days = days
        self.times = times
        self.given_up = []

    def has_time(self, which):
        """Whether there is such a time, be it given up or not."""
        return self.times == FOR_EVER or which < self.times

    def has_given_up(self, which):
        return which in self.given_up

    def beginning(self, which):
        return self.first + which * self.days * DAY

    def step(self):
        """The days between two times."""
        # A plan that doesn't come again has its time 0 alone, so any step above 0 is right for it.
        return max(self.days, 1)

    def latest_time(self, moment):
        """Which time begins last up to this moment, were there times without end; below 0 ahead of the first."""
        return (moment - self.first) // (self.step() * DAY)

    def has_moment(self, moment):
        which = self.latest_time(moment)
        if which < 0 or not self.has_time(which) or self.has_given_up(which):
            return False
        return moment - self.beginning(which) < self.length

    def next_beginning(self, moment):
        """The first moment from this one on at which a time begins that hasn't been given up, or None."""
        which = max(0, self.latest_time(moment - 1) + 1)
        while self.has_given_up(which):
            which += 1
        if not self.has_time(which):
            return None
        return self.beginning(which)

    def minutes_had(self, moment, until):
        """How many of the minutes from moment on, up to until, without that, the plan has."""
        # None is longer than a day, so no time ahead of the latest one reaches up to the moment.
        which = max(0, self.latest_time(moment))
        had = 0
        while self.has_time(which) and self.beginning(which) < until:
            if not self.has_given_up(which):
                begin = max(self.beginning(which), moment)
                behind = min(self.beginning(which) + self.length, until)
                had += max(0, behind - begin)
            which += 1
        return had


def is_plan(first, length, days, times):
    if first > MOST_FIRST or length < 1 or length > MOST_LENGTH or days > MOST_DAYS:
        return False
    if days == 0:
        return times == 1
    return times <= MOST_TIMES


def plan_of(when):
    """The plan of the four numbers of when, or None if there is no such plan."""
    if not is_plan(when[0], when[1], when[2], when[3]):
        return None
    return Plan(when[0], when[1], when[2], when[3])


def first_meeting(one, other):
    """The first moment that both plans have, or None if they never meet."""
    # All times begin whole days apart from others of their plan, and none is longer than a day. So a time of
    # the other plan that meets one of this can begin only by these two leads behind it.
    behind = (other.first - one.first) % DAY
    moments = []
    for lead in (behind, behind - DAY):
        if -other.length < lead < one.length:
            moment = first_meeting_at_lead(one, other, lead)
            if moment is not None:
                moments.append(moment)
    return min(moments, default=None)


def first_meeting_at_lead(one, other, lead):
    """The first moment at which a time of one meets a time of other that begins lead minutes behind it."""
    shift = (one.first + lead - other.first) // DAY
    which = least_match(one.step(), other.step(), shift)
    if which is None:
        return None
    partner = (which * one.step() + shift) // other.step()
    common = greatest_divisor(one.step(), other.step())
    # Each round but the last one uses up a time that was given up, and there are few of these: so this ends
    # soon, also where both plans come again for ever.
    while one.has_time(which) and other.has_time(partner):
        if not one.has_given_up(which) and not other.has_given_up(partner):
            return max(one.beginning(which), other.beginning(partner))
        which += other.step() // common
        partner += one.step() // common
    return None


def least_match(step, other_step, shift):
    """The least k from 0 on with k * step + shift a multiple of other_step and not below 0, or None."""
    least = max(0, -(shift // step))
    # What is left over by other_step comes again after other_step tries at the latest.
    for k in range(least, least + other_step):
        if (k * step + shift) % other_step == 0:
            return k
    return None


def greatest_divisor(a, b):
    """The greatest number that divides both."""
    while b > 0:
        rest = a % b
        a = b
        b = rest
    return a
