import unittest

from line import BEGIN, DRIVING, NOW, OTHER, REST, add, drop, now, said


class TheWhole(unittest.TestCase):
    def test_seven_numbers(self):
        self.assertEqual(now(REST, 100, OTHER, 20, DRIVING, 50, REST, 15), [185, 50, 1, 100, 50, 50, 50])

    def test_nothing_told(self):
        self.assertEqual(now(), [0, 0, 0, -1, 0, 0, 0])

    def test_only_rest_told(self):
        self.assertEqual(now(REST, 14), [14, 0, 0, -1, 0, 0, 0])
        self.assertEqual(now(REST, 15), [15, 0, 1, -1, 0, 0, 0])
        self.assertEqual(now(REST, 44), [44, 0, 1, -1, 0, 0, 0])
        self.assertEqual(now(REST, 45), [45, 0, 0, -1, 0, 0, 0])
        self.assertEqual(now(REST, 20000), [20000, 0, 0, -1, 0, 0, 0])

    def test_rest_first_and_then_work(self):
        self.assertEqual(now(REST, 600, DRIVING, 50), [650, 50, 0, 600, 50, 50, 50])
        self.assertEqual(now(REST, 600, OTHER, 50), [650, 0, 0, 600, 0, 0, 0])

    def test_between_add_and_drop_and_behind_begin(self):
        rows = said(
            NOW, add(DRIVING, 100, REST, 45), NOW, add(DRIVING, 20), NOW, drop(1), NOW, drop(1), NOW, drop(2), NOW,
            BEGIN, NOW)
        nothing = [0, 0, 0, -1, 0, 0, 0]
        paused = [145, 0, 0, 0, 100, 100, 100]
        self.assertEqual(rows, [
            nothing, [145], paused, [165], [165, 20, 0, 0, 120, 120, 120], [145], paused,
            [100], [100, 100, 0, 0, 100, 100, 100], [-1], [100, 100, 0, 0, 100, 100, 100], [0], nothing])

    def test_begun_anew_with_much_told(self):
        rows = said(add(REST, 20000, DRIVING, 900, REST, 20), BEGIN, NOW, add(DRIVING, 3), NOW)
        self.assertEqual(rows[2:], [[0, 0, 0, -1, 0, 0, 0], [3], [3, 3, 0, 0, 3, 3, 3]])

    def test_it_changes_nothing(self):
        rows = said(add(DRIVING, 100, REST, 30), NOW, NOW, drop(2))
        self.assertEqual(rows[1:], [[130, 100, 1, 0, 100, 100, 100]] * 2 + [[0]])


class SinceTheLastWholeBreak(unittest.TestCase):
    def since(self, driving, first_part, *numbers):
        self.assertEqual(now(*numbers)[1:3], [driving, first_part])

    def test_without_a_break(self):
        self.since(130, 0, DRIVING, 100, OTHER, 60, DRIVING, 30, OTHER, 5)
        self.since(900, 0, DRIVING, 900)

    def test_behind_45(self):
        self.since(20, 0, DRIVING, 100, REST, 45, DRIVING, 20)
        self.since(20, 0, DRIVING, 100, REST, 45, OTHER, 9, DRIVING, 20)

    def test_behind_44(self):
        self.since(120, 1, DRIVING, 100, REST, 44, DRIVING, 20)

    def test_behind_a_night(self):
        self.since(20, 0, DRIVING, 100, REST, 600, DRIVING, 20)

    def test_behind_15_and_30(self):
        self.since(20, 0, DRIVING, 100, REST, 15, DRIVING, 50, REST, 30, DRIVING, 20)

    def test_behind_14_and_30(self):
        self.since(170, 1, DRIVING, 100, REST, 14, DRIVING, 50, REST, 30, DRIVING, 20)

    def test_behind_15_and_29(self):
        self.since(170, 1, DRIVING, 100, REST, 15, DRIVING, 50, REST, 29, DRIVING, 20)

    def test_behind_14_and_14(self):
        self.since(170, 0, DRIVING, 100, REST, 14, DRIVING, 50, REST, 14, DRIVING, 20)

    def test_behind_30_and_15(self):
        self.since(170, 1, DRIVING, 100, REST, 30, DRIVING, 50, REST, 15, DRIVING, 20)

    def test_a_rest_at_the_end(self):
        self.since(100, 0, DRIVING, 100, REST, 14)
        self.since(100, 1, DRIVING, 100, REST, 15)
        self.since(100, 1, DRIVING, 100, REST, 44)
        self.since(0, 0, DRIVING, 100, REST, 45)

    def test_a_second_part_at_the_end(self):
        self.since(150, 1, DRIVING, 100, REST, 15, DRIVING, 50, REST, 29)
        self.since(0, 0, DRIVING, 100, REST, 15, DRIVING, 50, REST, 30)

    def test_a_rest_at_the_end_told_in_parts(self):
        self.since(0, 0, DRIVING, 100, REST, 30, REST, 15)
        self.since(100, 1, DRIVING, 100, REST, 14, REST, 1)

    def test_a_first_part_behind_a_whole_break(self):
        self.since(15, 1, DRIVING, 100, REST, 45, DRIVING, 10, REST, 15, DRIVING, 5)
        self.since(15, 0, DRIVING, 100, REST, 45, DRIVING, 10, REST, 14, DRIVING, 5)
        self.since(15, 1, DRIVING, 100, REST, 15, DRIVING, 1, REST, 30, DRIVING, 10, REST, 30, DRIVING, 5)

    def test_a_first_part_ahead_of_a_whole_break(self):
        self.since(5, 0, DRIVING, 100, REST, 15, DRIVING, 10, REST, 45, DRIVING, 5)
        self.since(105, 1, DRIVING, 9, REST, 15, OTHER, 1, REST, 45, DRIVING, 70, REST, 30, DRIVING, 35)

    def test_the_second_part_counts_once(self):
        self.since(9, 1, DRIVING, 9, REST, 15, DRIVING, 9, REST, 30, DRIVING, 9, REST, 30)


class TheDay(unittest.TestCase):
    def day(self, beginning, driving, *numbers):
        self.assertEqual(now(*numbers)[3:5], [beginning, driving])

    def test_all_driving_of_the_day(self):
        self.day(7, 150, REST, 7, OTHER, 10, DRIVING, 100, REST, 300, DRIVING, 50, OTHER, 3)

    def test_a_rest_at_the_end(self):
        self.day(7, 100, REST, 7, DRIVING, 100, REST, 539)
        self.day(-1, 0, REST, 7, DRIVING, 100, REST, 540)
        self.day(-1, 0, REST, 7, DRIVING, 100, REST, 539, REST, 1)
        self.day(7, 0, REST, 7, OTHER, 100, REST, 539)

    def test_the_next_day_begins_with_the_first_work(self):
        self.day(640, 5, DRIVING, 100, REST, 540, DRIVING, 5)
        self.day(640, 5, DRIVING, 100, REST, 540, OTHER, 6, DRIVING, 5)
        self.day(0, 105, DRIVING, 100, REST, 539, DRIVING, 5)

    def test_one_that_has_long_gone_on(self):
        self.day(0, 5, DRIVING, 5, OTHER, 9000)

    def test_one_that_begins_at_minute_0(self):
        self.day(0, 1, DRIVING, 1)
        self.day(0, 0, OTHER, 1)


class TheWeeks(unittest.TestCase):
    def weeks(self, one, both, *numbers):
        self.assertEqual(now(*numbers)[5:], [one, both])

    def test_the_first_week(self):
        self.weeks(150, 150, DRIVING, 100, REST, 600, DRIVING, 50, REST, 3)

    def test_the_first_border_with_driving_till_then(self):
        ahead = [REST, 9980, DRIVING, 99]
        self.weeks(99, 99, *ahead)
        self.weeks(0, 100, *ahead, DRIVING, 1)
        self.weeks(1, 101, *ahead, DRIVING, 2)

    def test_the_first_border_without_driving_across(self):
        ahead = [DRIVING, 100, REST, 9979]
        self.weeks(100, 100, *ahead)
        self.weeks(0, 100, *ahead, REST, 1)
        self.weeks(0, 100, *ahead, REST, 2)

    def test_the_second_border_behind_driving_over_the_first(self):
        ahead = [REST, 9980, DRIVING, 300, OTHER, 20159 - 10280]
        self.weeks(200, 300, *ahead)
        self.weeks(0, 200, *ahead, OTHER, 1)
        self.weeks(0, 200, *ahead, OTHER, 2)
        self.weeks(1, 202, *ahead, DRIVING, 2)

    def test_the_second_border_with_driving_over_it(self):
        ahead = [DRIVING, 40, REST, 20000]
        self.weeks(119, 159, *ahead, DRIVING, 119)
        self.weeks(0, 120, *ahead, DRIVING, 120)
        self.weeks(1, 121, *ahead, DRIVING, 121)

    def test_not_the_one_before_that(self):
        self.weeks(5, 5, DRIVING, 100, REST, 20000, REST, 60, DRIVING, 5)
        self.weeks(5, 9, DRIVING, 100, REST, 10000, DRIVING, 4, REST, 10056, DRIVING, 5)

    def test_a_week_of_rest(self):
        self.weeks(0, 0, DRIVING, 100, REST, 20000, REST, 10000)


if __name__ == "__main__":
    unittest.main()
