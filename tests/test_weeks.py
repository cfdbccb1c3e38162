import unittest

from line import DRIVING, OTHER, REST, broken, filled


class Rule8(unittest.TestCase):
    def broken(self, *numbers):
        return broken(*numbers, rule=8)

    def test_just_kept_and_just_broken(self):
        self.assertEqual(self.broken(DRIVING, 3360), [])
        self.assertEqual(self.broken(DRIVING, 3361), [(8, 0, 1)])

    def test_all_driving_of_the_week_together(self):
        self.assertEqual(self.broken(*[DRIVING, 500, REST, 700, OTHER, 100] * 7), [(8, 0, 140)])

    def test_other_work_is_no_driving(self):
        self.assertEqual(self.broken(OTHER, 10080), [])

    def test_driving_across_the_border_belongs_to_both(self):
        self.assertEqual(self.broken(OTHER, 10080 - 3360, DRIVING, 6720), [])
        self.assertEqual(self.broken(OTHER, 10080 - 3361, DRIVING, 6720), [(8, 0, 1)])
        self.assertEqual(self.broken(OTHER, 10080 - 3360, DRIVING, 6721), [(8, 10080, 1)])

    def test_driving_across_several_weeks(self):
        self.assertEqual(
            self.broken(REST, 10079, *filled(DRIVING, 20162)),
            [(8, 10080, 6720), (8, 20160, 6720)])

    def test_a_week_that_has_only_just_begun(self):
        self.assertEqual(self.broken(DRIVING, 10080), [(8, 0, 6720)])
        self.assertEqual(self.broken(DRIVING, 10081), [(8, 0, 6720)])


class Rule9(unittest.TestCase):
    def broken(self, *numbers):
        return broken(*numbers, rule=9)

    def test_the_first_week_alone(self):
        self.assertEqual(self.broken(DRIVING, 5400), [])
        self.assertEqual(self.broken(DRIVING, 5401), [(9, 0, 1)])

    def test_with_the_week_before(self):
        self.assertEqual(self.broken(DRIVING, 3000, REST, 7080, DRIVING, 2400), [])
        self.assertEqual(self.broken(DRIVING, 3000, REST, 7080, DRIVING, 2401), [(9, 10080, 1)])

    def test_not_with_the_one_before_that(self):
        self.assertEqual(
            self.broken(DRIVING, 3000, REST, 17160, DRIVING, 3000, REST, 17160, DRIVING, 3000), [])

    def test_each_week(self):
        numbers = [DRIVING, 2701, REST, 7379] * 3
        self.assertEqual(self.broken(*numbers), [(9, 10080, 2), (9, 20160, 2)])

    def test_only_weeks_that_begin_ahead_of_the_end(self):
        self.assertEqual(self.broken(DRIVING, 5403, REST, 10080 - 5403), [(9, 0, 3)])
        self.assertEqual(self.broken(DRIVING, 5403, REST, 10081 - 5403), [(9, 0, 3), (9, 10080, 3)])
        self.assertEqual(self.broken(DRIVING, 5403, *filled(REST, 30000)), [(9, 0, 3), (9, 10080, 3)])


if __name__ == "__main__":
    unittest.main()
