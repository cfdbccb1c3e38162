"""Calendar weeks: rules 8 and 9."""

from drivershours.stretch import DRIVING

WEEK = 10080
MOST_IN_ONE = 3360
MOST_IN_TWO = 5400


# One number for each week that begins ahead of the end.
def driving_by_week(stretches):
    driven = []
    for kind, start, stop in stretches:
        while len(driven) * WEEK < stop:
            driven.append(0)
        if kind == DRIVING:
            share_out(driven, start, stop)
    return driven


def share_out(driven, start, stop):
    at = start
    while at < stop:
        week = at // WEEK
        till = min(stop, (week + 1) * WEEK)
        driven[week] += till - at
        at = till


# Weeks that have not begun have no driving, nor has the one ahead of the first.
def driving_in_week(stretches, week):
    driven = driving_by_week(stretches)
    if 0 <= week < len(driven):
        return driven[week]
    return 0


# The driving in the week in which the end lies, and in that and the one before.
# An end on the border of two weeks lies in the later one: that begins there.
def week_going_on(stretches, end):
    week = end // WEEK
    driving = driving_in_week(stretches, week)
    return [driving, driving_in_week(stretches, week - 1) + driving]


def overdriven_weeks(stretches):
    broken = []
    before = 0
    for week, driving in enumerate(driving_by_week(stretches)):
        if driving > MOST_IN_ONE:
            broken.append((week * WEEK, 8, driving - MOST_IN_ONE))
        if before + driving > MOST_IN_TWO:
            broken.append((week * WEEK, 9, before + driving - MOST_IN_TWO))
        before = driving
    return broken
