import unittest

from line import BEGIN, DAYS, DRIVING, OTHER, REST, add, days, drop, said

WHOLE, SHORT, TOO_SHORT, OPEN = 0, 1, 2, 3


class HowItAnswers(unittest.TestCase):
    def test_how_many_first(self):
        self.assertEqual(
            said(add(REST, 5, DRIVING, 100, REST, 600, OTHER, 7), DAYS)[-1],
            [2, 5, 100, 600, SHORT, 705, 0, 0, OPEN])

    def test_nothing_told(self):
        self.assertEqual(said(DAYS), [[0]])

    def test_only_rest_told(self):
        for minutes in (1, 539, 540, 1440, 1441, 20000):
            self.assertEqual(said(add(REST, minutes), DAYS)[-1], [0])

    def test_between_add_and_drop_and_behind_begin(self):
        rows = said(DAYS, add(DRIVING, 100, REST, 540), DAYS, add(OTHER, 3), DAYS, drop(2), DAYS, drop(2), DAYS,
                    BEGIN, DAYS)
        self.assertEqual(rows, [
            [0], [640], [1, 0, 100, 540, SHORT], [643], [2, 0, 100, 540, SHORT, 640, 0, 0, OPEN],
            [100], [1, 0, 100, 0, OPEN], [-1], [1, 0, 100, 0, OPEN], [0], [0]])

    def test_it_changes_nothing(self):
        rows = said(add(DRIVING, 100, REST, 700), DAYS, DAYS, drop(2))
        self.assertEqual(rows[1:], [[1, 0, 100, 700, WHOLE]] * 2 + [[0]])


class WhereADayBegins(unittest.TestCase):
    def test_rest_first_and_then_work(self):
        self.assertEqual(days(REST, 600, DRIVING, 50), [(600, 50, 0, OPEN)])
        self.assertEqual(days(REST, 600, OTHER, 50), [(600, 0, 0, OPEN)])
        self.assertEqual(days(REST, 3, OTHER, 50, DRIVING, 8), [(3, 8, 0, OPEN)])

    def test_behind_a_rest_of_540(self):
        self.assertEqual(
            days(DRIVING, 9, REST, 540, OTHER, 2, DRIVING, 8), [(0, 9, 540, SHORT), (549, 8, 0, OPEN)])

    def test_not_behind_a_rest_of_539(self):
        self.assertEqual(days(DRIVING, 9, REST, 539, OTHER, 2, DRIVING, 8), [(0, 17, 0, OPEN)])

    def test_each_of_several(self):
        self.assertEqual(
            days(*[DRIVING, 300, REST, 60, DRIVING, 240, REST, 840] * 3, OTHER, 1),
            [(0, 540, 840, WHOLE), (1440, 540, 840, WHOLE), (2880, 540, 840, WHOLE), (4320, 0, 0, OPEN)])

    def test_more_days_than_one_row_can_tell(self):
        given = days(*[DRIVING, 1, REST, 540] * 200)
        self.assertEqual(given, [(541 * at, 1, 540, SHORT) for at in range(200)])


class TheRest(unittest.TestCase):
    def one(self, counted, kind, *numbers):
        driving = sum(numbers[at + 1] for at in range(0, len(numbers), 2) if numbers[at] == DRIVING)
        self.assertEqual(days(*numbers), [(0, driving, counted, kind)])
        self.assertEqual(days(*numbers, OTHER, 1)[0], (0, driving, counted, kind))

    def test_660_count(self):
        self.one(660, WHOLE, DRIVING, 780, REST, 660)
        self.one(659, SHORT, DRIVING, 780, REST, 659)
        self.one(659, SHORT, DRIVING, 781, REST, 660)

    def test_540_count(self):
        self.one(540, SHORT, DRIVING, 900, REST, 540)
        self.one(539, TOO_SHORT, DRIVING, 901, REST, 540)

    def test_540_count_behind_180(self):
        self.one(540, WHOLE, OTHER, 10, REST, 180, DRIVING, 10, REST, 540)
        self.one(540, SHORT, OTHER, 10, REST, 179, DRIVING, 10, REST, 540)
        self.one(540, WHOLE, OTHER, 10, REST, 180, DRIVING, 710, REST, 540)

    def test_539_count_behind_180(self):
        self.one(539, TOO_SHORT, OTHER, 10, REST, 180, DRIVING, 711, REST, 540)

    def test_180_anywhere_ahead_in_the_same_day(self):
        self.one(545, WHOLE, OTHER, 10, REST, 180, OTHER, 10, REST, 20, OTHER, 10, REST, 545)
        self.one(545, WHOLE, OTHER, 10, REST, 20, OTHER, 10, REST, 539, OTHER, 10, REST, 545)
        self.one(545, WHOLE, OTHER, 10, REST, 100, REST, 80, OTHER, 10, REST, 545)
        self.one(545, SHORT, OTHER, 10, REST, 179, OTHER, 10, REST, 179, OTHER, 10, REST, 545)

    def test_180_in_another_day(self):
        self.assertEqual(
            days(OTHER, 1, REST, 180, OTHER, 1, REST, 540, OTHER, 1, REST, 545),
            [(0, 0, 540, WHOLE), (722, 0, 545, SHORT)])
        self.assertEqual(days(REST, 180, OTHER, 1, REST, 545), [(180, 0, 545, SHORT)])

    def test_what_lies_in_the_1440_minutes_alone_counts(self):
        self.one(660, WHOLE, OTHER, 780, REST, 9000)
        self.one(659, SHORT, OTHER, 781, REST, 9000)
        self.one(540, SHORT, OTHER, 900, REST, 9000)
        self.one(539, TOO_SHORT, OTHER, 901, REST, 9000)
        self.one(1, TOO_SHORT, OTHER, 1439, REST, 9000)
        self.one(0, TOO_SHORT, OTHER, 1440, REST, 9000)
        self.one(0, TOO_SHORT, OTHER, 3000, REST, 540)

    def test_the_1440_minutes_are_of_its_own_day(self):
        self.assertEqual(
            days(REST, 70, OTHER, 900, REST, 541, OTHER, 880, REST, 900),
            [(70, 0, 540, SHORT), (70 + 1441, 0, 560, SHORT)])

    def test_the_longest_that_counts(self):
        self.one(1439, WHOLE, DRIVING, 1, REST, 20000)

    def test_only_the_rest_that_ends_the_day_counts(self):
        self.one(540, SHORT, OTHER, 200, REST, 150, OTHER, 550, REST, 540)
        self.one(539, TOO_SHORT, OTHER, 1, REST, 500, OTHER, 400, REST, 540)


class ADayThatIsNotEnded(unittest.TestCase):
    def test_till_1440_minutes_have_gone_by(self):
        self.assertEqual(days(DRIVING, 1440), [(0, 1440, 0, OPEN)])
        self.assertEqual(days(DRIVING, 1441), [(0, 1441, 0, TOO_SHORT)])
        self.assertEqual(days(REST, 7, OTHER, 1440), [(7, 0, 0, OPEN)])
        self.assertEqual(days(REST, 7, OTHER, 1441), [(7, 0, 0, TOO_SHORT)])

    def test_a_rest_at_the_end(self):
        self.assertEqual(days(DRIVING, 100, REST, 539), [(0, 100, 0, OPEN)])
        self.assertEqual(days(DRIVING, 100, REST, 540), [(0, 100, 540, SHORT)])
        self.assertEqual(days(DRIVING, 100, REST, 659), [(0, 100, 659, SHORT)])
        self.assertEqual(days(DRIVING, 100, REST, 660), [(0, 100, 660, WHOLE)])

    def test_a_rest_at_the_end_behind_180(self):
        self.assertEqual(days(OTHER, 1, REST, 180, OTHER, 1, REST, 539), [(0, 0, 0, OPEN)])
        self.assertEqual(days(OTHER, 1, REST, 180, OTHER, 1, REST, 540), [(0, 0, 540, WHOLE)])

    def test_a_rest_at_the_end_across_the_1440_minutes(self):
        self.assertEqual(days(OTHER, 901, REST, 539), [(0, 0, 0, OPEN)])
        self.assertEqual(days(OTHER, 902, REST, 539), [(0, 0, 0, TOO_SHORT)])
        self.assertEqual(days(OTHER, 902, REST, 540), [(0, 0, 538, TOO_SHORT)])

    def test_the_last_of_several(self):
        ahead = [OTHER, 10, REST, 700]
        self.assertEqual(days(*ahead, OTHER, 1440), [(0, 0, 700, WHOLE), (710, 0, 0, OPEN)])
        self.assertEqual(days(*ahead, OTHER, 1441), [(0, 0, 700, WHOLE), (710, 0, 0, TOO_SHORT)])


if __name__ == "__main__":
    unittest.main()
