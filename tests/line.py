"""What the tests share: calls put into one list, and what is answered taken apart."""

from drivershours.hours import answers

REST, DRIVING, OTHER = 0, 1, 2

BEGIN = [1]
REPORT = [4]
NOW = [5]
DAYS = [6]


def add(*numbers):
    return [2, len(numbers), *numbers]


def drop(n):
    return [3, n]


def week(k):
    return [7, k]


def said(*calls):
    """The numbers answered to each call, as a list of lists."""
    given = answers([number for call in calls for number in call])
    rows = []
    at = 0
    while at < len(given):
        rows.append(given[at + 1:at + 1 + given[at]])
        at += 1 + given[at]
    return rows


def rows_of(report):
    """The (rule, minute, minutes) of a report."""
    assert len(report) == 1 + 3 * report[0]
    return [tuple(report[at:at + 3]) for at in range(1, len(report), 3)]


def told(numbers):
    """The adds that tell these stretches, as many as it takes."""
    return [add(*numbers[at:at + 400]) for at in range(0, len(numbers), 400)]


def answered(call, numbers):
    """What this call answers once these stretches are told."""
    *ends, last = said(*told(numbers), call)
    assert all(end[0] >= 0 for end in ends)
    return last


def broken(*numbers, rule=None):
    """What is broken once these stretches are told, of one rule or of all."""
    rows = rows_of(answered(REPORT, numbers))
    return [row for row in rows if rule is None or row[0] == rule]


def now(*numbers):
    """What now answers once these stretches are told."""
    return answered(NOW, numbers)


def days(*numbers):
    """The (beginning, driving, counted, kind of rest) of each day once these stretches are told."""
    given = answered(DAYS, numbers)
    assert len(given) == 1 + 4 * given[0]
    return [tuple(given[at:at + 4]) for at in range(1, len(given), 4)]


def driving_in(k, *numbers):
    """The driving in calendar week k once these stretches are told."""
    return answered(week(k), numbers)


def filled(kind, minutes):
    """A long stretch in parts that can be told."""
    numbers = []
    while minutes > 0:
        part = min(minutes, 20000)
        numbers += [kind, part]
        minutes -= part
    return numbers
