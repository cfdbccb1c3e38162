"""Weekly rests: rules 5, 6 and 7."""

from drivershours.stretch import REST, first_work
from drivershours.weeks import WEEK

WEEKLY_REST = 1440
WHOLE_WEEKLY_REST = 2700
SPARING_REST = 540
LONGEST_WITHOUT = 8640
WEEKS_TO_MAKE_UP = 3


def rests_behind_work(stretches):
    work = first_work(stretches)
    if work is None:
        return []
    return [(start, stop) for kind, start, stop in stretches if kind == REST and start > work]


def weekly_rests(rests):
    return [(start, stop) for start, stop in rests if stop - start >= WEEKLY_REST]


# A rest that goes on at the end may still become a whole one.
def is_short(start, stop, end):
    return WEEKLY_REST <= stop - start < WHOLE_WEEKLY_REST and stop != end


def lacking(start, stop):
    return WHOLE_WEEKLY_REST - (stop - start)


def late_weekly_rests(stretches, end):
    work = first_work(stretches)
    if work is None:
        return []
    broken = []
    latest = work + LONGEST_WITHOUT
    for start, stop in weekly_rests(rests_behind_work(stretches)):
        if start > latest:
            broken.append((latest, 5, start - latest))
        latest = stop + LONGEST_WITHOUT
    if end > latest:
        broken.append((latest, 5, end - latest))
    return broken


def twice_short_weekly_rests(stretches, end):
    broken = []
    short_before = False
    for start, stop in weekly_rests(rests_behind_work(stretches)):
        short = is_short(start, stop, end)
        if short_before and short:
            broken.append((start, 6, lacking(start, stop)))
        short_before = short
    return broken


def spare_of(minutes):
    if minutes >= WHOLE_WEEKLY_REST:
        return minutes - WHOLE_WEEKLY_REST
    if SPARING_REST <= minutes < WEEKLY_REST:
        return minutes - SPARING_REST
    return 0


# The minute at which the time to make up for a rest is over. A rest that ends
# on the border of two weeks has ended in the later one, in which that minute lies.
def due_minute(stop):
    return (stop // WEEK + 1 + WEEKS_TO_MAKE_UP) * WEEK


# A debt is when it is due and what is lacking; they stand in the order in which
# they came, so that the first one that fits is the earliest.
def debts_left(debts, start, spare):
    left = []
    made_up = False
    for due, minutes in debts:
        if not made_up and minutes <= spare and start + minutes <= due:
            made_up = True
        else:
            left.append((due, minutes))
    return left


def weekly_rests_not_made_up_for(stretches, end):
    debts = []
    for start, stop in rests_behind_work(stretches):
        debts = debts_left(debts, start, spare_of(stop - start))
        if is_short(start, stop, end):
            debts.append((due_minute(stop), lacking(start, stop)))
    return [(due, 7, minutes) for due, minutes in debts if due <= end]
