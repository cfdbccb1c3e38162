import unittest

from line import DRIVING, OTHER, REST, broken, filled


class Rule5(unittest.TestCase):
    def broken(self, *numbers):
        return broken(*numbers, rule=5)

    def test_the_first_one(self):
        self.assertEqual(self.broken(OTHER, 8640, REST, 1440, OTHER, 1), [])
        self.assertEqual(self.broken(OTHER, 8641, REST, 1440, OTHER, 1), [(5, 8640, 1)])
        self.assertEqual(self.broken(DRIVING, 9000, REST, 5000, OTHER, 1), [(5, 8640, 360)])

    def test_it_is_counted_from_the_first_work_on(self):
        self.assertEqual(self.broken(REST, 100, OTHER, 8640, REST, 1440), [])
        self.assertEqual(self.broken(REST, 100, OTHER, 8642, REST, 1440), [(5, 8740, 2)])

    def test_a_rest_ahead_of_the_first_work_is_none(self):
        self.assertEqual(self.broken(REST, 1440, OTHER, 8641), [(5, 10080, 1)])

    def test_the_next_one_is_counted_from_the_end_of_the_one_before(self):
        ahead = [OTHER, 10, REST, 1500]
        self.assertEqual(self.broken(*ahead, OTHER, 8640, REST, 1440, OTHER, 1), [])
        self.assertEqual(self.broken(*ahead, OTHER, 8643, REST, 1440, OTHER, 1), [(5, 10150, 3)])

    def test_each_late_one(self):
        self.assertEqual(
            self.broken(OTHER, 8641, REST, 1440, OTHER, 8642, REST, 1440, OTHER, 8643),
            [(5, 8640, 1), (5, 10081 + 8640, 2), (5, 10081 + 10082 + 8640, 3)])

    def test_none_till_the_end(self):
        self.assertEqual(self.broken(OTHER, 8640), [])
        self.assertEqual(self.broken(OTHER, 8641), [(5, 8640, 1)])
        self.assertEqual(self.broken(OTHER, 10, REST, 1440, OTHER, 8640), [])
        self.assertEqual(self.broken(OTHER, 10, REST, 1440, OTHER, 8641), [(5, 10090, 1)])

    def test_it_has_1440(self):
        self.assertEqual(self.broken(OTHER, 8000, REST, 1439, OTHER, 1), [(5, 8640, 800)])
        self.assertEqual(self.broken(OTHER, 8000, REST, 1440, OTHER, 1), [])

    def test_one_that_goes_on_at_the_end(self):
        self.assertEqual(self.broken(OTHER, 8000, REST, 1439), [(5, 8640, 799)])
        self.assertEqual(self.broken(OTHER, 8000, REST, 1440), [])
        self.assertEqual(self.broken(OTHER, 8700, REST, 1439), [(5, 8640, 1499)])
        self.assertEqual(self.broken(OTHER, 8700, REST, 20000), [(5, 8640, 60)])


class Rule6(unittest.TestCase):
    def broken(self, *rests):
        """A minute of work ahead of each rest, and one behind the last."""
        numbers = [OTHER, 1]
        for minutes in rests:
            numbers += [REST, minutes, OTHER, 1]
        return broken(*numbers, rule=6)

    def test_one_short_one_alone(self):
        self.assertEqual(self.broken(1440), [])

    def test_two_short_ones(self):
        self.assertEqual(self.broken(1440, 1440), [(6, 1442, 1260)])
        self.assertEqual(self.broken(1600, 2000), [(6, 1602, 700)])

    def test_a_whole_one_has_2700(self):
        self.assertEqual(self.broken(2699, 2699), [(6, 2701, 1)])
        self.assertEqual(self.broken(2700, 2699), [])
        self.assertEqual(self.broken(2699, 2700), [])

    def test_in_turn(self):
        self.assertEqual(self.broken(1440, 2700, 1440, 2700, 1440), [])

    def test_each_of_several(self):
        self.assertEqual(self.broken(1440, 1500, 1600), [(6, 1442, 1200), (6, 2943, 1100)])

    def test_1439_are_none(self):
        self.assertEqual(self.broken(1440, 1439), [])
        self.assertEqual(self.broken(1440, 1439, 1440), [(6, 1442 + 1440, 1260)])

    def test_a_rest_ahead_of_the_first_work_is_none(self):
        self.assertEqual(broken(REST, 1440, OTHER, 1, REST, 1440, OTHER, 1, rule=6), [])

    def test_one_that_goes_on_at_the_end_is_not_short(self):
        ahead = [OTHER, 1, REST, 1440, OTHER, 1]
        self.assertEqual(broken(*ahead, REST, 1440, rule=6), [])
        self.assertEqual(broken(*ahead, REST, 2699, rule=6), [])
        self.assertEqual(broken(*ahead, REST, 1440, DRIVING, 1, rule=6), [(6, 1442, 1260)])


class Rule7(unittest.TestCase):
    def broken(self, *stretches, end=60000, kind=OTHER):
        """Filled up with work till the end."""
        told = sum(stretches[1::2])
        self.assertLessEqual(told, end)
        return broken(*stretches, *filled(kind, end - told), rule=7)

    def test_told_once_the_time_has_come(self):
        short = [OTHER, 10, REST, 1440]
        self.assertEqual(self.broken(*short, end=40319), [])
        self.assertEqual(self.broken(*short, end=40320), [(7, 40320, 1260)])
        self.assertEqual(self.broken(*short, end=60000), [(7, 40320, 1260)])

    def test_a_whole_one_lacks_nothing(self):
        self.assertEqual(self.broken(OTHER, 10, REST, 2699), [(7, 40320, 1)])
        self.assertEqual(self.broken(OTHER, 10, REST, 2700), [])

    def test_1439_are_no_weekly_rest(self):
        self.assertEqual(self.broken(OTHER, 10, REST, 1439), [])

    def test_a_rest_ahead_of_the_first_work_is_none(self):
        self.assertEqual(self.broken(REST, 1440), [])

    def test_the_week_in_which_it_ended(self):
        self.assertEqual(self.broken(OTHER, 8579, REST, 1500), [(7, 40320, 1200)])
        self.assertEqual(self.broken(OTHER, 8580, REST, 1500), [(7, 50400, 1200)])
        self.assertEqual(self.broken(OTHER, 18659, REST, 1500), [(7, 50400, 1200)])

    def test_spare_of_a_rest_below_1440(self):
        short = [OTHER, 10, REST, 2000, OTHER, 10]
        self.assertEqual(self.broken(*short, REST, 1239), [(7, 40320, 700)])
        self.assertEqual(self.broken(*short, REST, 1240), [])
        self.assertEqual(self.broken(*short, REST, 1439), [])

    def test_a_rest_of_540_has_nothing_to_spare(self):
        short = [OTHER, 10, REST, 2699, OTHER, 10]
        self.assertEqual(self.broken(*short, REST, 539), [(7, 40320, 1)])
        self.assertEqual(self.broken(*short, REST, 540), [(7, 40320, 1)])
        self.assertEqual(self.broken(*short, REST, 541), [])

    def test_a_short_weekly_rest_has_nothing_to_spare(self):
        short = [OTHER, 10, REST, 2000, OTHER, 10]
        self.assertEqual(self.broken(*short, REST, 1440), [(7, 40320, 700), (7, 40320, 1260)])
        self.assertEqual(self.broken(*short, REST, 2699), [(7, 40320, 1), (7, 40320, 700)])

    def test_spare_of_a_whole_weekly_rest(self):
        short = [OTHER, 10, REST, 2000, OTHER, 10]
        self.assertEqual(self.broken(*short, REST, 2700), [(7, 40320, 700)])
        self.assertEqual(self.broken(*short, REST, 3399), [(7, 40320, 700)])
        self.assertEqual(self.broken(*short, REST, 3400), [])

    def test_at_once_and_not_bit_by_bit(self):
        short = [OTHER, 10, REST, 2000]
        self.assertEqual(self.broken(*short, *[OTHER, 10, REST, 1000] * 5), [(7, 40320, 700)])

    def test_only_a_rest_behind_it(self):
        self.assertEqual(self.broken(OTHER, 10, REST, 1400, OTHER, 10, REST, 2000), [(7, 40320, 700)])
        self.assertEqual(self.broken(OTHER, 10, REST, 9000, OTHER, 10, REST, 2000), [(7, 50400, 700)])

    def test_it_makes_up_for_one_alone(self):
        two = [OTHER, 10, REST, 2600, OTHER, 10, REST, 2650]
        self.assertEqual(self.broken(*two, OTHER, 10, REST, 1439), [(7, 40320, 50)])
        self.assertEqual(self.broken(*two, OTHER, 10, REST, 20000), [(7, 40320, 50)])
        self.assertEqual(self.broken(*two, *[OTHER, 10, REST, 640] * 2), [])

    def test_the_earliest_for_which_it_has_enough(self):
        two = [OTHER, 10, REST, 2000, OTHER, 10, REST, 2650]
        self.assertEqual(self.broken(*two, OTHER, 10, REST, 1239), [(7, 40320, 700)])
        self.assertEqual(self.broken(*two, OTHER, 10, REST, 1240), [(7, 40320, 50)])
        self.assertEqual(self.broken(*two, OTHER, 10, REST, 600, OTHER, 10, REST, 1240), [])

    def test_one_made_up_for_is_not_made_up_for_again(self):
        two = [OTHER, 10, REST, 2650, OTHER, 10, REST, 2600]
        self.assertEqual(self.broken(*two, *[OTHER, 10, REST, 600] * 2), [(7, 40320, 100)])
        self.assertEqual(self.broken(*two, *[OTHER, 10, REST, 640] * 2), [])

    def test_in_time(self):
        short = [OTHER, 10, REST, 2000]
        ahead = [*short, *filled(OTHER, 40320 - 700 - 2010)]
        self.assertEqual(self.broken(*ahead, REST, 1240), [])
        self.assertEqual(self.broken(*ahead, REST, 1439), [])
        self.assertEqual(self.broken(*ahead, OTHER, 1, REST, 1439), [(7, 40320, 700)])
        self.assertEqual(self.broken(*ahead, OTHER, 1, REST, 5000), [(7, 40320, 700)])

    def test_one_in_time_for_a_later_one(self):
        two = [OTHER, 10, REST, 2600, OTHER, 8000, REST, 2600]
        ahead = [*two, *filled(OTHER, 40321 - 100 - 13210)]
        self.assertEqual(self.broken(*ahead, REST, 640), [(7, 40320, 100)])
        self.assertEqual(self.broken(*ahead), [(7, 40320, 100), (7, 50400, 100)])

    def test_one_too_long_to_be_in_time_leaves_it_to_a_shorter(self):
        two = [OTHER, 10, REST, 2000, OTHER, 10, REST, 2600]
        ahead = [*two, *filled(OTHER, 40320 - 699 - 4620)]
        self.assertEqual(self.broken(*ahead, REST, 1439), [(7, 40320, 700)])

    def test_one_that_goes_on_at_the_end_is_not_short(self):
        self.assertEqual(broken(*filled(OTHER, 37000), REST, 1440, rule=7), [])
        late = [OTHER, 10, REST, 2699, OTHER, 1, REST, 1500]
        self.assertEqual(self.broken(*late, end=40320), [(7, 40320, 1), (7, 40320, 1200)])

    def test_the_end_of_the_time_within_a_rest_that_goes_on(self):
        short = [OTHER, 10, REST, 2000]
        ahead = [*short, *filled(OTHER, 40320 - 700 - 2010)]
        self.assertEqual(broken(*ahead, REST, 700, rule=7), [(7, 40320, 700)])
        self.assertEqual(broken(*ahead, REST, 1239, rule=7), [(7, 40320, 700)])
        self.assertEqual(broken(*ahead, REST, 1240, rule=7), [])
        self.assertEqual(broken(*ahead, REST, 1440, rule=7), [(7, 40320, 700)])
        self.assertEqual(broken(*ahead, REST, 3399, rule=7), [(7, 40320, 700)])
        self.assertEqual(broken(*ahead, REST, 3400, rule=7), [])


if __name__ == "__main__":
    unittest.main()
