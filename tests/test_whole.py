"""What holds of every line, tried on many lines; the same ones each time."""

import random
import unittest

from line import BEGIN, DAYS, DRIVING, NOW, OTHER, REPORT, REST, add, answered, broken, days, drop, driving_in
from line import filled, now, said, week


def some_line(chance):
    """Stretches of such lengths as the rules set, or a minute beside them."""
    lengths = [1, 9, 15, 30, 45, 180, 270, 539, 540, 600, 660, 1440, 2700, 3600, 8640, 10080]
    numbers = []
    for _ in range(chance.randint(1, 60)):
        minutes = max(1, chance.choice(lengths) + chance.randint(-1, 1))
        numbers += [chance.choice([REST, REST, DRIVING, OTHER]), minutes]
    return numbers


def in_parts(numbers, chance):
    parts = []
    for at in range(0, len(numbers), 2):
        kind, minutes = numbers[at:at + 2]
        first = chance.randint(0, minutes)
        parts += [part for part in ([kind, first], [kind, minutes - first]) if part[1] > 0]
    return [number for part in parts for number in part]


def driving_of(numbers):
    return sum(minutes for kind, minutes in zip(numbers[::2], numbers[1::2]) if kind == DRIVING)


def end_of(numbers):
    return sum(numbers[1::2])


def asked_of(numbers):
    """Every call that asks, with the week of the end and those beside it."""
    last = end_of(numbers) // 10080
    return [REPORT, NOW, DAYS, week(0), week(last), week(last + 1), week(max(0, last - 1))]


class EveryLine(unittest.TestCase):
    def setUp(self):
        chance = random.Random(7)
        self.lines = [(some_line(chance), chance) for _ in range(300)]

    def test_told_in_two_parts_is_the_same_as_in_one(self):
        for numbers, chance in self.lines:
            parts = in_parts(numbers, chance)
            for call in asked_of(numbers):
                self.assertEqual(answered(call, parts), answered(call, numbers))

    def test_told_by_two_calls_is_the_same_as_by_one(self):
        for numbers, _ in self.lines:
            half = len(numbers) // 4 * 2
            asked = asked_of(numbers)
            by_two = said(add(*numbers[:half]), add(*numbers[half:]), *asked)
            self.assertEqual(by_two[1:], said(add(*numbers), *asked))

    def test_one_stretch_told_by_two_calls_is_the_same_as_by_one(self):
        for numbers, chance in self.lines:
            *ahead, kind, minutes = numbers
            first = chance.randint(1, minutes)
            asked = asked_of(numbers)
            by_two = [add(*ahead, kind, first), add(*[kind, minutes - first][:2 * (minutes > first)])]
            self.assertEqual(said(*by_two, *asked)[1:], said(add(*numbers), *asked))

    def test_taken_back_is_as_if_never_told(self):
        for numbers, _ in self.lines:
            half = len(numbers) // 4 * 2
            asked = asked_of(numbers)
            dropped = said(add(*numbers), drop((len(numbers) - half) // 2), *asked)
            self.assertEqual(dropped[1:], said(add(*numbers[:half]), *asked))

    def test_begun_again_is_as_if_new(self):
        for numbers, _ in self.lines[1:50]:
            asked = asked_of(numbers)
            again = said(add(*self.lines[0][0]), BEGIN, add(*numbers), *asked)
            self.assertEqual(again[2:], said(add(*numbers), *asked))

    def test_driving_of_all_days_together_is_all_the_driving(self):
        for numbers, _ in self.lines:
            self.assertEqual(sum(driving for _, driving, _, _ in days(*numbers)), driving_of(numbers))

    def test_driving_of_all_weeks_together_is_all_the_driving(self):
        for numbers, _ in self.lines:
            weeks = range(end_of(numbers) // 10080 + 1)
            rows = said(add(*numbers), *[week(k) for k in weeks])[1:]
            self.assertEqual(sum(row[0] for row in rows), driving_of(numbers))

    def test_now_tells_what_days_and_week_tell(self):
        for numbers, _ in self.lines:
            end, _, _, beginning, in_day, in_week, in_two = now(*numbers)
            k = end // 10080
            before = driving_in(k - 1, *numbers)[0] if k > 0 else 0
            self.assertEqual(end, end_of(numbers))
            self.assertEqual([in_week], driving_in(k, *numbers))
            self.assertEqual(in_two, in_week + before)
            not_ended = [(-1, 0)] + [(at, driving) for at, driving, counted, kind in days(*numbers)
                                     if kind == 3 or (kind == 2 and counted == 0)]
            self.assertIn((beginning, in_day), not_ended)

    def test_days_tells_what_report_breaks(self):
        for numbers, _ in self.lines:
            too_short = [(3, at + 1440, 540 - counted) for at, _, counted, kind in days(*numbers) if kind == 2]
            self.assertEqual(broken(*numbers, rule=3), too_short)

    def test_the_order_of_report(self):
        for numbers, _ in self.lines:
            rows = broken(*numbers)
            self.assertEqual(rows, sorted(rows, key=lambda row: (row[1], row[0], row[2])))
            self.assertTrue(all(amount > 0 for rule, minute, amount in rows))


class MixedCalls(unittest.TestCase):
    """Each answer is that of what is told by then, whatever was called ahead of it."""

    def setUp(self):
        self.chance = random.Random(11)
        self.told = []

    def call(self):
        number = self.chance.choice([1, 2, 2, 2, 2, 3, 4, 5, 6, 7])
        if number == 2:
            numbers = some_line(self.chance)[:2 * self.chance.randint(0, 9)]
            return add(*self.chance.choice([numbers, numbers, numbers, [*numbers, 3, 1], [*numbers, 0]]))
        if number == 3:
            return drop(self.chance.randint(-1, 9))
        if number == 7:
            return week(self.chance.choice([-1, 0, 1, 2, 3, 7, 1000, 1001]))
        return [number]

    def awaited(self, call):
        if call == BEGIN:
            self.told = []
            return [0]
        if call[0] == 2:
            if len(call) % 2 == 1 or 3 in call[2::2]:
                return [-1]
            self.told = self.told + call[2:]
            return [end_of(self.told)]
        if call[0] == 3:
            if not 0 <= 2 * call[1] <= len(self.told):
                return [-1]
            self.told = self.told[:len(self.told) - 2 * call[1]]
            return [end_of(self.told)]
        return answered(call, self.told)

    def test_all_seven_kinds_of_call_mixed(self):
        kinds = set()
        for _ in range(60):
            self.told = []
            calls = [self.call() for _ in range(60)]
            kinds |= {call[0] for call in calls}
            self.assertEqual(said(*calls), [self.awaited(call) for call in calls])
        self.assertEqual(kinds, {1, 2, 3, 4, 5, 6, 7})


class OnlyRest(unittest.TestCase):
    def test_who_only_rests_breaks_nothing(self):
        for minutes in (1, 45, 539, 540, 1440, 2000, 2700, 8641, 10080, 20000, 60000, 200000):
            self.assertEqual(broken(*filled(REST, minutes)), [])

    def test_the_longest_rest(self):
        self.assertEqual(broken(*[REST, 20000] * 400), [])

    def test_the_longest_drive(self):
        rows = broken(*[DRIVING, 20000] * 400)
        self.assertEqual(rows[0], (2, 0, 7999400))
        self.assertEqual([row for row in rows if row[0] in (1, 3, 5)],
                         [(1, 270, 7999730), (3, 1440, 540), (5, 8640, 7991360)])
        self.assertEqual(len([row for row in rows if row[0] == 8]), 794)
        self.assertEqual(len([row for row in rows if row[0] == 9]), 794)


if __name__ == "__main__":
    unittest.main()
