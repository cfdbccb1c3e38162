"""Days: rules 2, 3 and 4."""

from drivershours.stretch import DRIVING, REST
from drivershours.weekly import WEEKLY_REST
from drivershours.weeks import WEEK

DAY = 1440
DAY_REST = 540
WHOLE_REST = 660
REST_AHEAD = 180
USUAL_DRIVING = 540
MOST_DRIVING = 600
MOST_LONG_DAYS = 2
MOST_SHORT_RESTS = 3

WHOLE = 0
SHORT = 1
TOO_SHORT = 2
UNDECIDED = 3

NO_DAY = -1


class Day:
    def __init__(self, start):
        self.start = start
        self.driving = 0
        self.had_rest_ahead = False
        self.ended = False
        self.rest_start = 0
        self.rest_stop = 0

    def take_rest(self, start, stop):
        if stop - start >= DAY_REST:
            self.ended = True
            self.rest_start = start
            self.rest_stop = stop
        elif stop - start >= REST_AHEAD:
            self.had_rest_ahead = True

    def counted_rest(self):
        if not self.ended:
            return 0
        return max(0, min(self.rest_stop, self.start + DAY) - self.rest_start)

    def rest_kind(self, end):
        if not self.ended and end - self.start <= DAY:
            return UNDECIDED
        counted = self.counted_rest()
        if counted < DAY_REST:
            return TOO_SHORT
        if counted >= WHOLE_REST or self.had_rest_ahead:
            return WHOLE
        return SHORT

    def ends_in_weekly_rest(self):
        return self.rest_stop - self.rest_start >= WEEKLY_REST


# Alike stretches are one here, so work lies ahead of every rest but the first:
# no day takes a rest that isn't its own.
def days_of(stretches):
    days = []
    day = None
    for kind, start, stop in stretches:
        if kind == REST:
            if day is not None:
                day.take_rest(start, stop)
        else:
            if day is None or day.ended:
                day = Day(start)
                days.append(day)
            if kind == DRIVING:
                day.driving += stop - start
    return days


# The beginning of the day that is not ended, and the driving in it.
def day_going_on(days):
    if len(days) == 0 or days[-1].ended:
        return [NO_DAY, 0]
    day = days[-1]
    return [day.start, day.driving]


def overdriven_days(days):
    broken = []
    long_days = {}
    for day in days:
        if day.driving > USUAL_DRIVING:
            week = day.start // WEEK
            long_days[week] = long_days.get(week, 0) + 1
            if day.driving > MOST_DRIVING:
                broken.append((day.start, 2, day.driving - MOST_DRIVING))
            elif long_days[week] > MOST_LONG_DAYS:
                broken.append((day.start, 2, day.driving - USUAL_DRIVING))
    return broken


def too_short_rests(days, end):
    broken = []
    for day in days:
        if day.rest_kind(end) == TOO_SHORT:
            broken.append((day.start + DAY, 3, DAY_REST - day.counted_rest()))
    return broken


def surplus_short_rests(days, end):
    broken = []
    short_rests = 0
    for day in days:
        if day.ends_in_weekly_rest():
            short_rests = 0
        elif day.rest_kind(end) == SHORT:
            short_rests += 1
            if short_rests > MOST_SHORT_RESTS:
                broken.append((day.rest_start, 4, WHOLE_REST - day.counted_rest()))
    return broken
