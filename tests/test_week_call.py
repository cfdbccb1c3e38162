import unittest

from line import BEGIN, DAYS, DRIVING, NOW, OTHER, REPORT, REST, add, driving_in, drop, filled, said, week


class Driving(unittest.TestCase):
    def test_week_0(self):
        self.assertEqual(driving_in(0, DRIVING, 100, REST, 50, DRIVING, 7, OTHER, 3), [107])

    def test_nothing_told(self):
        self.assertEqual(said(week(0), week(1), week(1000)), [[0], [0], [0]])

    def test_only_rest_told(self):
        self.assertEqual(said(add(REST, 20000), week(0), week(1), week(2)), [[20000], [0], [0], [0]])

    def test_other_work_is_no_driving(self):
        self.assertEqual(driving_in(0, OTHER, 10080), [0])

    def test_across_the_border(self):
        rows = said(add(REST, 10000, DRIVING, 200), week(0), week(1), week(2))
        self.assertEqual(rows[1:], [[80], [120], [0]])

    def test_at_the_border(self):
        rows = said(add(REST, 10079, DRIVING, 1), week(0), week(1), add(DRIVING, 1), week(0), week(1))
        self.assertEqual(rows[1:], [[1], [0], [10081], [1], [1]])

    def test_across_several(self):
        rows = said(add(OTHER, 10079, *filled(DRIVING, 20162)), week(0), week(1), week(2), week(3), week(4))
        self.assertEqual(rows[1:], [[1], [10080], [10080], [1], [0]])

    def test_behind_the_end(self):
        rows = said(add(DRIVING, 300), week(1), week(2), week(500), week(1000))
        self.assertEqual(rows[1:], [[0], [0], [0], [0]])

    def test_the_last_that_can_be_told(self):
        most = [DRIVING, 20000] * 400
        self.assertEqual(driving_in(792, *most), [10080])
        self.assertEqual(driving_in(793, *most), [8000000 - 793 * 10080])
        self.assertEqual(driving_in(794, *most), [0])
        self.assertEqual(driving_in(1000, *most), [0])

    def test_between_add_and_drop_and_behind_begin(self):
        rows = said(add(DRIVING, 100, DRIVING, 20), week(0), drop(1), week(0), add(DRIVING, 5), week(0), BEGIN, week(0))
        self.assertEqual(rows, [[120], [120], [100], [100], [105], [105], [0], [0]])


class Refusals(unittest.TestCase):
    def test_not_0_to_1000(self):
        for k in (-1, 1001, -2147483648, 2147483647):
            self.assertEqual(said(week(k)), [[-1]])
            self.assertEqual(driving_in(k, *[DRIVING, 20000] * 400), [-1])

    def test_they_change_nothing(self):
        told = add(REST, 9, DRIVING, 271, REST, 600, OTHER, 1)
        asked = [REPORT, NOW, DAYS, week(0), week(1000)]
        for k in (-1, 1001, -2147483648, 2147483647):
            rows = said(told, *asked, week(k), *asked, drop(4))
            self.assertEqual(rows[6], [-1])
            self.assertEqual(rows[7:12], rows[1:6])
            self.assertEqual(rows[12], [0])


if __name__ == "__main__":
    unittest.main()
