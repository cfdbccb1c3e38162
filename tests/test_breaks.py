import unittest

from line import DRIVING, OTHER, REST, broken


def missed(*numbers):
    return broken(*numbers, rule=1)


class Rule1(unittest.TestCase):
    def test_just_kept_and_just_broken(self):
        self.assertEqual(broken(DRIVING, 270), [])
        self.assertEqual(broken(DRIVING, 271), [(1, 270, 1)])

    def test_all_that_is_driven_beyond(self):
        self.assertEqual(broken(DRIVING, 300, OTHER, 10, DRIVING, 20, REST, 5, DRIVING, 1), [(1, 270, 51)])

    def test_the_minute_lies_within_a_later_stretch(self):
        self.assertEqual(broken(REST, 7, DRIVING, 200, OTHER, 60, DRIVING, 70), [])
        self.assertEqual(broken(REST, 7, DRIVING, 200, OTHER, 60, DRIVING, 71), [(1, 337, 1)])

    def test_the_minute_is_where_driving_goes_on(self):
        self.assertEqual(broken(DRIVING, 270, OTHER, 10), [])
        self.assertEqual(broken(DRIVING, 270, OTHER, 10, DRIVING, 5), [(1, 280, 5)])
        self.assertEqual(broken(DRIVING, 270, REST, 10, OTHER, 10, DRIVING, 5), [(1, 290, 5)])

    def test_other_work_is_no_driving_and_no_break(self):
        self.assertEqual(broken(OTHER, 800), [])
        self.assertEqual(broken(DRIVING, 200, OTHER, 45, DRIVING, 71), [(1, 315, 1)])

    def test_a_whole_break_has_45(self):
        self.assertEqual(broken(DRIVING, 270, REST, 45, DRIVING, 270), [])
        self.assertEqual(broken(DRIVING, 270, REST, 44, DRIVING, 270), [(1, 314, 270)])
        self.assertEqual(broken(DRIVING, 200, REST, 20, REST, 25, DRIVING, 200), [])

    def test_each_between_two_whole_breaks_is_told(self):
        self.assertEqual(
            broken(DRIVING, 271, REST, 45, DRIVING, 272, REST, 45, DRIVING, 2),
            [(1, 270, 1), (1, 586, 2)])

    def test_a_break_in_two_parts(self):
        self.assertEqual(broken(DRIVING, 100, REST, 15, DRIVING, 170, REST, 30, DRIVING, 270), [])

    def test_the_first_part_has_15(self):
        self.assertEqual(missed(DRIVING, 100, REST, 14, DRIVING, 170, REST, 30, DRIVING, 1), [(1, 314, 1)])

    def test_the_second_part_has_30(self):
        self.assertEqual(missed(DRIVING, 100, REST, 15, DRIVING, 170, REST, 29, DRIVING, 1), [(1, 314, 1)])

    def test_the_longer_part_first_does_not_do(self):
        self.assertEqual(missed(DRIVING, 100, REST, 30, DRIVING, 170, REST, 15, DRIVING, 1), [(1, 315, 1)])

    def test_a_part_of_30_does_for_either(self):
        self.assertEqual(missed(DRIVING, 100, REST, 30, DRIVING, 170, REST, 30, DRIVING, 270), [])

    def test_a_first_part_waits_for_its_second(self):
        self.assertEqual(
            missed(DRIVING, 90, REST, 15, DRIVING, 90, REST, 29, DRIVING, 90, REST, 30, DRIVING, 270), [])

    def test_no_whole_break_in_between(self):
        self.assertEqual(
            missed(DRIVING, 9, REST, 15, DRIVING, 9, REST, 45, DRIVING, 200, REST, 30, DRIVING, 71),
            [(1, 378, 1)])

    def test_a_second_part_is_no_first_part(self):
        self.assertEqual(
            missed(DRIVING, 9, REST, 15, DRIVING, 9, REST, 30, DRIVING, 200, REST, 30, DRIVING, 71),
            [(1, 363, 1)])

    def test_a_first_part_behind_a_break_in_two_parts(self):
        self.assertEqual(
            missed(DRIVING, 9, REST, 15, DRIVING, 9, REST, 30,
                   DRIVING, 200, REST, 30, DRIVING, 70, REST, 30, DRIVING, 270), [])

    def test_a_first_part_ahead_of_the_first_work(self):
        self.assertEqual(missed(REST, 15, DRIVING, 100, REST, 30, DRIVING, 270), [])

    def test_a_whole_break_told_in_two_parts_leaves_no_first_part(self):
        behind = [DRIVING, 200, REST, 30, DRIVING, 71]
        self.assertEqual(missed(REST, 30, REST, 15, *behind), [(1, 345, 1)])
        self.assertEqual(missed(DRIVING, 9, REST, 30, REST, 15, *behind), [(1, 354, 1)])

    def test_a_long_rest_is_a_whole_break(self):
        self.assertEqual(missed(DRIVING, 270, REST, 600, DRIVING, 270), [])

    def test_two_rests_with_work_between_are_not_one(self):
        self.assertEqual(missed(DRIVING, 270, REST, 14, OTHER, 1, REST, 44, DRIVING, 1), [(1, 329, 1)])


if __name__ == "__main__":
    unittest.main()
