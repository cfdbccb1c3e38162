"""One driver: what is told, and the calls about it."""

from drivershours.breaks import missed_breaks, since_whole_break
from drivershours.daily import day_going_on, days_of, overdriven_days, surplus_short_rests, too_short_rests
from drivershours.stretch import OTHER_WORK, REST, end_of, stretches_of
from drivershours.weekly import late_weekly_rests, twice_short_weekly_rests, weekly_rests_not_made_up_for
from drivershours.weeks import driving_in_week, overdriven_weeks, week_going_on

MOST_TOLD = 400
MOST_MINUTES = 20000
LAST_WEEK = 1000
NOT_ALLOWED = -1
TOO_MANY = -5


def are_stretches(numbers):
    if len(numbers) % 2 != 0:
        return False
    for at in range(0, len(numbers), 2):
        if not REST <= numbers[at] <= OTHER_WORK:
            return False
        if not 1 <= numbers[at + 1] <= MOST_MINUTES:
            return False
    return True


# Each broken thing as its minute, its rule and its minutes beyond: the order
# in which they are compared is the order in which they are told.
def all_broken(told):
    stretches = stretches_of(told)
    end = end_of(told)
    days = days_of(stretches)
    broken = missed_breaks(stretches)
    broken.extend(overdriven_days(days))
    broken.extend(too_short_rests(days, end))
    broken.extend(surplus_short_rests(days, end))
    broken.extend(late_weekly_rests(stretches, end))
    broken.extend(twice_short_weekly_rests(stretches, end))
    broken.extend(weekly_rests_not_made_up_for(stretches, end))
    broken.extend(overdriven_weeks(stretches))
    return sorted(broken)


# Each call gives back a list of the numbers that it answers. What is told is
# kept as it was told, since a drop takes it back so.
class Driver:
    def __init__(self):
        self.told = []

    def begin(self):
        self.told = []
        return [0]

    def add(self, numbers):
        if not are_stretches(numbers):
            return [NOT_ALLOWED]
        if len(self.told) + len(numbers) // 2 > MOST_TOLD:
            return [TOO_MANY]
        for at in range(0, len(numbers), 2):
            self.told.append((numbers[at], numbers[at + 1]))
        return [end_of(self.told)]

    def drop(self, n):
        if not 0 <= n <= len(self.told):
            return [NOT_ALLOWED]
        self.told = self.told[:len(self.told) - n]
        return [end_of(self.told)]

    def report(self):
        broken = all_broken(self.told)
        numbers = [len(broken)]
        for minute, rule, minutes in broken:
            numbers.extend([rule, minute, minutes])
        return numbers

    def now(self):
        stretches = stretches_of(self.told)
        end = end_of(self.told)
        numbers = [end]
        numbers.extend(since_whole_break(stretches))
        numbers.extend(day_going_on(days_of(stretches)))
        numbers.extend(week_going_on(stretches, end))
        return numbers

    def days(self):
        end = end_of(self.told)
        days = days_of(stretches_of(self.told))
        numbers = [len(days)]
        for day in days:
            numbers.extend([day.start, day.driving, day.counted_rest(), day.rest_kind(end)])
        return numbers

    def week(self, k):
        if not 0 <= k <= LAST_WEEK:
            return [NOT_ALLOWED]
        return [driving_in_week(stretches_of(self.told), k)]
