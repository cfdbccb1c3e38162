import copy
import unittest

from drivershours.hours import answers
from line import BEGIN, DRIVING, OTHER, REPORT, REST, add, broken, drop, filled, said


class TheList(unittest.TestCase):
    def test_each_answer_has_its_count_ahead(self):
        self.assertEqual(answers([1]), [1, 0])
        self.assertEqual(
            answers([1, 2, 4, 1, 271, 0, 9, 3, 1, 4, 3, 9]),
            [1, 0, 1, 280, 1, 271, 4, 1, 1, 270, 1, 1, -1])

    def test_now_days_and_week_in_the_list(self):
        self.assertEqual(
            answers([5, 6, 7, 0, 2, 8, 0, 9, 1, 100, 0, 600, 2, 5, 5, 6, 7, 0, 7, -1, 7, 1001]),
            [7, 0, 0, 0, -1, 0, 0, 0, 1, 0, 1, 0, 1, 714,
             7, 714, 0, 0, 709, 0, 100, 100, 9, 2, 9, 100, 600, 1, 709, 0, 0, 3, 1, 100, 1, -1, 1, -1])

    def test_the_number_of_a_week_is_not_taken_for_a_call(self):
        self.assertEqual(said(add(DRIVING, 7), [7, 5], [7, 4], [7, 1], [7, 7], [7, 0]), [[7], [0], [0], [0], [0], [7]])

    def test_calls_in_any_order_and_without_a_begin(self):
        self.assertEqual(answers([4]), [1, 0])
        self.assertEqual(answers([3, 0]), [1, 0])
        self.assertEqual(answers([2, 2, 0, 7]), [1, 7])
        self.assertEqual(answers([5]), [7, 0, 0, 0, -1, 0, 0, 0])
        self.assertEqual(answers([6]), [1, 0])
        self.assertEqual(answers([7, 3]), [1, 0])

    def test_numbers_of_a_row_are_not_taken_for_calls(self):
        self.assertEqual(said([2, 4, 1, 4, 2, 3], REPORT), [[7], [0]])
        self.assertEqual(said([2, 3, 4, 4, 4], REPORT), [[-1], [0]])
        self.assertEqual(said([2, 6, 1, 5, 2, 6, 0, 7], REPORT), [[18], [0]])

    def test_sixty_calls(self):
        calls = [1] * 59 + [4]
        self.assertEqual(answers(calls), [1, 0] * 60)

    def test_what_is_handed_in_is_not_changed(self):
        calls = [2, 6, 1, 271, 0, 9, 0, 9, 4, 5, 6, 7, 0, 3, 1, 4, 7, -1, 2, 1, 5, 5, 6, 1, 4]
        kept = copy.deepcopy(calls)
        answers(calls)
        self.assertEqual(calls, kept)

    def test_nothing_is_kept_from_one_time_to_the_next(self):
        first = answers([2, 2, 1, 300, 4])
        self.assertEqual(answers([2, 2, 1, 300, 4]), first)
        self.assertEqual(answers([4, 3, 0, 6, 7, 0]), [1, 0] * 4)
        self.assertEqual(answers([5]), [7, 0, 0, 0, -1, 0, 0, 0])

    def test_the_answer_is_a_new_list_of_plain_whole_numbers(self):
        calls = [2, 4, 1, 300, 0, 20, 4, 5, 6, 7, 0]
        first = answers(calls)
        first.append(7)
        second = answers(calls)
        self.assertEqual(second, first[:-1])
        self.assertTrue(all(type(number) is int for number in second))


class Begin(unittest.TestCase):
    def test_nothing_is_told_any_more(self):
        self.assertEqual(
            said(add(DRIVING, 300), BEGIN, REPORT, drop(1), drop(0), add(REST, 3)),
            [[300], [0], [0], [-1], [0], [3]])


class Add(unittest.TestCase):
    def test_the_end(self):
        self.assertEqual(said(add(REST, 5, DRIVING, 7), add(OTHER, 9), add()), [[12], [21], [21]])
        self.assertEqual(said(add()), [[0]])

    def test_most_and_least_minutes(self):
        self.assertEqual(said(add(REST, 20000, DRIVING, 1)), [[20001]])

    def refused(self, code, *numbers):
        told = [DRIVING, 200, OTHER, 5, DRIVING, 100]
        rows = said(add(*told), REPORT, add(*numbers), REPORT, drop(3), drop(1))
        self.assertEqual(rows, [[305], [1, 1, 275, 30], [code], [1, 1, 275, 30], [0], [-1]])

    def test_not_a_kind(self):
        for kind in (-1, 3, 2147483647, -2147483648):
            self.refused(-1, kind, 10)
            self.refused(-1, DRIVING, 10, kind, 10)

    def test_not_minutes(self):
        for minutes in (0, -1, 20001, 2147483647, -2147483648):
            self.refused(-1, REST, minutes)
            self.refused(-1, REST, 10, DRIVING, minutes)
            self.refused(-1, REST, minutes, DRIVING, 10)

    def test_a_kind_without_minutes(self):
        self.refused(-1, REST)
        self.refused(-1, REST, 10, DRIVING)

    def test_four_hundred_at_the_most(self):
        half = [REST, 1, OTHER, 1] * 100
        self.assertEqual(
            said(add(*half), add(*half), add(), add(REST, 1), drop(1), add(REST, 1, REST, 1), add(REST, 1), drop(400)),
            [[200], [400], [400], [-5], [399], [-5], [400], [0]])

    def test_alike_ones_count_as_they_were_told(self):
        half = [REST, 1] * 200
        rows = said(add(*half), add(*half), add(REST, 1), REPORT, drop(399), drop(1), drop(1))
        self.assertEqual(rows, [[200], [400], [-5], [0], [1], [0], [-1]])

    def test_too_many_adds_none_of_them(self):
        most = [REST, 1] * 199
        rows = said(add(*most), add(*most), add(REST, 1, REST, 1, REST, 1), drop(398), add(OTHER, 4))
        self.assertEqual(rows, [[199], [398], [-5], [0], [4]])

    def test_a_wrong_stretch_is_told_ahead_of_too_many(self):
        half = [REST, 1] * 200
        self.assertEqual(said(add(*half), add(*half), add(REST, 0), add(REST)), [[200], [400], [-1], [-1]])


class Drop(unittest.TestCase):
    def test_the_last_told_are_taken_back(self):
        self.assertEqual(said(add(REST, 5, DRIVING, 7, OTHER, 9), drop(2), add(OTHER, 1)), [[21], [5], [6]])

    def test_alike_ones_are_taken_back_one_by_one(self):
        rows = said(add(DRIVING, 200, DRIVING, 70), add(DRIVING, 30), REPORT, drop(1), REPORT, drop(1), drop(1))
        self.assertEqual(rows, [[270], [300], [1, 1, 270, 30], [270], [0], [200], [0]])

    def test_none_and_all(self):
        self.assertEqual(said(drop(0), add(REST, 5, REST, 6), drop(0), drop(2), drop(0)), [[0], [11], [11], [0], [0]])

    def test_refusals_change_nothing(self):
        for n in (-1, 3, 2147483647, -2147483648):
            rows = said(add(DRIVING, 271, REST, 9), drop(n), REPORT, drop(0), drop(2))
            self.assertEqual(rows, [[280], [-1], [1, 1, 270, 1], [280], [0]])

    def test_nothing_to_take_back(self):
        self.assertEqual(said(drop(1), drop(0)), [[-1], [0]])


class Report(unittest.TestCase):
    def test_nothing_told(self):
        self.assertEqual(said(REPORT), [[0]])

    def test_it_changes_nothing(self):
        report = [1, 1, 270, 1]
        self.assertEqual(said(add(DRIVING, 271), REPORT, REPORT, drop(1)), [[271], report, report, [0]])

    def test_by_the_minutes_and_in_one_minute_by_the_rules(self):
        self.assertEqual(
            broken(DRIVING, 6000),
            [(2, 0, 5400), (8, 0, 2640), (9, 0, 600), (1, 270, 5730), (3, 1440, 540)])

    def test_of_one_rule_in_one_minute_by_the_amounts(self):
        rows = broken(OTHER, 1, REST, 1440, OTHER, 1, REST, 2000, *filled(OTHER, 40320 - 3442), rule=7)
        self.assertEqual(rows, [(7, 40320, 700), (7, 40320, 1260)])


if __name__ == "__main__":
    unittest.main()
