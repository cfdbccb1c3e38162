"""What the tests share: calls put into one list, and what is answered taken apart."""

from drivershours.hours import answers

REST, DRIVING, OTHER = 0, 1, 2

BEGIN = [1]
REPORT = [4]


def add(*numbers):
    return [2, len(numbers), *numbers]


def drop(n):
    return [3, n]


def said(*calls):
    """The numbers answered to each call, as a list of lists."""
    given = answers([number for call in calls for number in call])
    rows = []
    at = 0
    while at < len(given):
        rows.append(given[at + 1:at + 1 + given[at]])
        at += 1 + given[at]
    return rows


def rows_of(report):
    """The (rule, minute, minutes) of a report."""
    assert len(report) == 1 + 3 * report[0]
    return [tuple(report[at:at + 3]) for at in range(1, len(report), 3)]


def broken(*numbers, rule=None):
    """What is broken once these stretches are told, of one rule or of all."""
    adds = [add(*numbers[at:at + 400]) for at in range(0, len(numbers), 400)]
    rows = rows_of(said(*adds, REPORT)[-1])
    return [row for row in rows if rule is None or row[0] == rule]


def filled(kind, minutes):
    """A long stretch in parts that can be told."""
    numbers = []
    while minutes > 0:
        part = min(minutes, 20000)
        numbers += [kind, part]
        minutes -= part
    return numbers
