import unittest

from line import DRIVING, OTHER, REST, broken


def day(driving, minutes=1440):
    """A day with so much driving; rest for the rest of its minutes."""
    return [DRIVING, driving, REST, minutes - driving]


def short_day(rest=600):
    return [OTHER, 700, REST, rest]


def whole_day():
    return [OTHER, 700, REST, 660]


class Rule2(unittest.TestCase):
    def broken(self, *numbers):
        return broken(*numbers, rule=2)

    def test_600_in_a_day(self):
        self.assertEqual(self.broken(*day(600)), [])
        self.assertEqual(self.broken(*day(601)), [(2, 0, 1)])

    def test_it_is_told_at_the_beginning_of_the_day(self):
        self.assertEqual(self.broken(REST, 77, OTHER, 10, DRIVING, 607), [(2, 77, 7)])

    def test_driving_of_one_day_is_put_together(self):
        parts = [DRIVING, 300, REST, 539, OTHER, 5, DRIVING, 300, REST, 60, DRIVING, 4]
        self.assertEqual(self.broken(*parts), [(2, 0, 4)])

    def test_a_rest_of_540_ends_the_day(self):
        self.assertEqual(self.broken(DRIVING, 400, REST, 540, DRIVING, 400), [])
        self.assertEqual(self.broken(DRIVING, 400, REST, 539, DRIVING, 400), [(2, 0, 200)])

    def test_more_than_540_on_two_days(self):
        self.assertEqual(self.broken(*day(600), *day(541), *day(540), *day(540)), [])

    def test_the_third_day_above_540(self):
        self.assertEqual(self.broken(*day(541), *day(541), *day(541)), [(2, 2880, 1)])
        self.assertEqual(self.broken(*day(541), *day(300), *day(600), *day(600)), [(2, 4320, 60)])

    def test_each_from_the_third_on(self):
        self.assertEqual(
            self.broken(*day(541), *day(541), *day(550), *day(540), *day(560)),
            [(2, 2880, 10), (2, 5760, 20)])

    def test_days_above_600_are_such_days(self):
        self.assertEqual(self.broken(*day(605), *day(541), *day(541)), [(2, 0, 5), (2, 2880, 1)])

    def test_above_600_from_the_third_on(self):
        self.assertEqual(self.broken(*day(541), *day(541), *day(605)), [(2, 2880, 5)])

    def test_the_next_calendar_week_counts_anew(self):
        ahead = [*day(541), *day(541)]
        self.assertEqual(self.broken(*ahead, REST, 7199, *day(600)), [(2, 10079, 60)])
        self.assertEqual(self.broken(*ahead, REST, 7200, *day(600), *day(600)), [])
        self.assertEqual(
            self.broken(*ahead, REST, 7200, *day(600), *day(600), *day(600)), [(2, 10080 + 2880, 60)])

    def test_a_day_across_the_border_is_of_the_week_it_begins_in(self):
        numbers = [REST, 7199, *day(541), *day(541), OTHER, 2, *day(541), *day(541), *day(541)]
        self.assertEqual(self.broken(*numbers), [(2, 10079, 1)])

    def test_a_day_that_is_not_ended(self):
        self.assertEqual(self.broken(*day(541), *day(541), DRIVING, 541), [(2, 2880, 1)])


class Rule3(unittest.TestCase):
    def broken(self, *numbers):
        return broken(*numbers, rule=3)

    def test_540_count(self):
        self.assertEqual(self.broken(OTHER, 900, REST, 540), [])
        self.assertEqual(self.broken(OTHER, 901, REST, 540), [(3, 1440, 1)])

    def test_only_what_lies_in_the_1440_minutes_counts(self):
        self.assertEqual(self.broken(REST, 10, OTHER, 1000, REST, 5000, OTHER, 1), [(3, 1450, 100)])
        self.assertEqual(self.broken(OTHER, 1439, REST, 540), [(3, 1440, 539)])
        self.assertEqual(self.broken(OTHER, 1440, REST, 540), [(3, 1440, 540)])
        self.assertEqual(self.broken(OTHER, 2000, REST, 540), [(3, 1440, 540)])

    def test_rest_ahead_of_the_ending_one_does_not_count(self):
        self.assertEqual(self.broken(OTHER, 1, REST, 539, OTHER, 401, REST, 540), [(3, 1440, 41)])

    def test_each_day(self):
        self.assertEqual(
            self.broken(OTHER, 902, REST, 540, OTHER, 900, REST, 540, OTHER, 903, REST, 600),
            [(3, 1440, 2), (3, 1442 + 1440 + 1440, 3)])

    def test_a_day_not_ended_when_1440_have_gone_by(self):
        self.assertEqual(self.broken(REST, 5, OTHER, 1440), [])
        self.assertEqual(self.broken(REST, 5, OTHER, 1441), [(3, 1445, 540)])

    def test_a_rest_that_goes_on_at_the_end(self):
        self.assertEqual(self.broken(OTHER, 901, REST, 539), [])
        self.assertEqual(self.broken(OTHER, 902, REST, 539), [(3, 1440, 540)])
        self.assertEqual(self.broken(OTHER, 902, REST, 539, REST, 1), [(3, 1440, 2)])
        self.assertEqual(self.broken(OTHER, 800, REST, 540), [])

    def test_a_weekly_rest_that_begins_late(self):
        self.assertEqual(self.broken(OTHER, 1000, REST, 2700, OTHER, 1), [(3, 1440, 100)])

    def test_a_rest_ahead_of_the_first_work_is_of_no_day(self):
        self.assertEqual(self.broken(REST, 2000), [])
        self.assertEqual(self.broken(REST, 2000, OTHER, 1440), [])


class Rule4(unittest.TestCase):
    def broken(self, *numbers):
        return broken(*numbers, rule=4)

    def test_three_short_rests(self):
        self.assertEqual(self.broken(*short_day() * 3, OTHER, 1), [])

    def test_each_further_one(self):
        self.assertEqual(self.broken(*short_day() * 4, OTHER, 1), [(4, 4600, 60)])
        self.assertEqual(self.broken(*short_day() * 5, OTHER, 1), [(4, 4600, 60), (4, 5900, 60)])

    def test_660_are_whole(self):
        ahead = short_day() * 3
        self.assertEqual(self.broken(*ahead, OTHER, 780, REST, 660, OTHER, 1), [])
        self.assertEqual(self.broken(*ahead, OTHER, 781, REST, 660, OTHER, 1), [(4, 4681, 1)])
        self.assertEqual(self.broken(*ahead, OTHER, 700, REST, 659, OTHER, 1), [(4, 4600, 1)])

    def test_540_are_short(self):
        ahead = short_day() * 3
        self.assertEqual(self.broken(*ahead, OTHER, 700, REST, 540, OTHER, 1), [(4, 4600, 120)])
        self.assertEqual(self.broken(*ahead, OTHER, 900, REST, 900, OTHER, 1), [(4, 4800, 120)])

    def test_one_too_short_is_not_counted(self):
        too_short = [OTHER, 901, REST, 540]
        self.assertEqual(self.broken(*short_day() * 3, *too_short, OTHER, 1), [])
        self.assertEqual(self.broken(*too_short, *short_day() * 3, OTHER, 1), [])

    def test_whole_ones_in_between(self):
        numbers = [*short_day(), *whole_day(), *short_day() * 2, *whole_day() * 2, *short_day(), OTHER, 1]
        self.assertEqual(self.broken(*numbers), [(4, 3 * 1300 + 3 * 1360 + 700, 60)])

    def test_a_rest_of_180_ahead_makes_it_whole(self):
        ahead = short_day() * 3
        self.assertEqual(self.broken(*ahead, OTHER, 10, REST, 180, OTHER, 10, REST, 540, OTHER, 1), [])
        self.assertEqual(
            self.broken(*ahead, OTHER, 10, REST, 179, OTHER, 10, REST, 540, OTHER, 1), [(4, 3900 + 199, 120)])

    def test_with_180_ahead_540_count_still(self):
        numbers = [OTHER, 360, REST, 180, OTHER, 361, REST, 540]
        self.assertEqual(broken(*numbers), [(3, 1440, 1)])

    def test_a_rest_of_180_in_another_day_does_not_do(self):
        split = [OTHER, 10, REST, 180, OTHER, 10, REST, 540]
        self.assertEqual(self.broken(*split, *short_day() * 4, OTHER, 1), [(4, 740 + 4600, 60)])
        self.assertEqual(self.broken(*short_day() * 3, *short_day(), *split, OTHER, 1), [(4, 4600, 60)])
        self.assertEqual(self.broken(REST, 180, *short_day() * 4, OTHER, 1), [(4, 180 + 4600, 60)])

    def test_a_weekly_rest_counts_anew(self):
        weekly = [OTHER, 10, REST, 1440]
        self.assertEqual(self.broken(*short_day() * 3, *weekly, *short_day() * 3, OTHER, 1), [])
        self.assertEqual(
            self.broken(*short_day() * 3, *weekly, *short_day() * 4, OTHER, 1), [(4, 3900 + 1450 + 4600, 60)])

    def test_1439_are_no_weekly_rest(self):
        numbers = [*short_day() * 3, OTHER, 10, REST, 1439, *short_day(), OTHER, 1]
        self.assertEqual(self.broken(*numbers), [(4, 3900 + 1449 + 700, 60)])

    def test_a_rest_ahead_of_the_first_work_is_no_short_one(self):
        self.assertEqual(self.broken(REST, 600, *short_day() * 3, OTHER, 1), [])

    def test_one_that_is_a_weekly_rest_is_not_counted(self):
        late = [OTHER, 850, REST, 1440]
        self.assertEqual(self.broken(*short_day() * 3, *late, OTHER, 1), [])
        self.assertEqual(self.broken(*late, *short_day() * 3, OTHER, 1), [])
        self.assertEqual(
            self.broken(*short_day() * 3, OTHER, 850, REST, 1439, OTHER, 1), [(4, 3900 + 850, 70)])

    def test_one_that_goes_on_at_the_end(self):
        ahead = [*short_day() * 3, OTHER, 700]
        self.assertEqual(self.broken(*ahead, REST, 539), [])
        self.assertEqual(self.broken(*ahead, REST, 540), [(4, 4600, 120)])
        self.assertEqual(self.broken(*ahead, REST, 659), [(4, 4600, 1)])
        self.assertEqual(self.broken(*ahead, REST, 660), [])


if __name__ == "__main__":
    unittest.main()
