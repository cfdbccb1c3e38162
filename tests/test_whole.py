"""What holds of every line, tried on many lines; the same ones each time."""

import random
import unittest

from line import BEGIN, DRIVING, OTHER, REPORT, REST, add, broken, drop, filled, said


def some_line(chance):
    """Stretches of such lengths as the rules set, or a minute beside them."""
    lengths = [1, 9, 15, 30, 45, 180, 270, 539, 540, 600, 660, 1440, 2700, 3600, 8640, 10080]
    numbers = []
    for _ in range(chance.randint(1, 60)):
        minutes = max(1, chance.choice(lengths) + chance.randint(-1, 1))
        numbers += [chance.choice([REST, REST, DRIVING, OTHER]), minutes]
    return numbers


def in_parts(numbers, chance):
    parts = []
    for at in range(0, len(numbers), 2):
        kind, minutes = numbers[at:at + 2]
        first = chance.randint(0, minutes)
        parts += [part for part in ([kind, first], [kind, minutes - first]) if part[1] > 0]
    return [number for part in parts for number in part]


class EveryLine(unittest.TestCase):
    def setUp(self):
        chance = random.Random(7)
        self.lines = [(some_line(chance), chance) for _ in range(300)]

    def test_told_in_two_parts_is_the_same_as_in_one(self):
        for numbers, chance in self.lines:
            self.assertEqual(broken(*in_parts(numbers, chance)), broken(*numbers))

    def test_told_by_two_calls_is_the_same_as_by_one(self):
        for numbers, _ in self.lines:
            half = len(numbers) // 4 * 2
            by_two = said(add(*numbers[:half]), add(*numbers[half:]), REPORT)
            self.assertEqual(by_two[1:], said(add(*numbers), REPORT))

    def test_taken_back_is_as_if_never_told(self):
        for numbers, _ in self.lines:
            half = len(numbers) // 4 * 2
            dropped = said(add(*numbers), drop((len(numbers) - half) // 2), REPORT)
            self.assertEqual(dropped[1:], said(add(*numbers[:half]), REPORT))

    def test_begun_again_is_as_if_new(self):
        for numbers, _ in self.lines[1:50]:
            again = said(add(*self.lines[0][0]), BEGIN, add(*numbers), REPORT)
            self.assertEqual(again[2:], said(add(*numbers), REPORT))

    def test_the_order_of_report(self):
        for numbers, _ in self.lines:
            rows = broken(*numbers)
            self.assertEqual(rows, sorted(rows, key=lambda row: (row[1], row[0], row[2])))
            self.assertTrue(all(amount > 0 for rule, minute, amount in rows))


class OnlyRest(unittest.TestCase):
    def test_who_only_rests_breaks_nothing(self):
        for minutes in (1, 45, 539, 540, 1440, 2000, 2700, 8641, 10080, 20000, 60000, 200000):
            self.assertEqual(broken(*filled(REST, minutes)), [])

    def test_the_longest_rest(self):
        self.assertEqual(broken(*[REST, 20000] * 400), [])

    def test_the_longest_drive(self):
        rows = broken(*[DRIVING, 20000] * 400)
        self.assertEqual(rows[0], (2, 0, 7999400))
        self.assertEqual([row for row in rows if row[0] in (1, 3, 5)],
                         [(1, 270, 7999730), (3, 1440, 540), (5, 8640, 7991360)])
        self.assertEqual(len([row for row in rows if row[0] == 8]), 794)
        self.assertEqual(len([row for row in rows if row[0] == 9]), 794)


if __name__ == "__main__":
    unittest.main()
