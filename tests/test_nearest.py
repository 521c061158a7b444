import unittest

from asking import GREATEST, ask, begins, decides, drop, gaps, last, nearest, rule


class NearestCase(unittest.TestCase):
    def answer(self, way, rows, number, *point):
        values = (len(rows[0]) - 1) // 2
        return last(begins(values, way, 0), *[rule(0, *row) for row in rows], nearest(0, number, *point))


class HowFar(NearestCase):
    def test_the_point_itself(self):
        for way in range(4):
            for values in (1, 2, 3):
                for value in (0, 50, 100):
                    point = [value] * values
                    self.assertEqual(self.answer(way, [[7] + [0, 100] * values], 7, *point), [0] + point)
                    self.assertEqual(self.answer(way, [[7] + [value, value] * values], 7, *point), [0] + point)

    def test_one_value(self):
        rows = [[7, 20, 30]]
        self.assertEqual(self.answer(0, rows, 7, 0), [20, 20])
        self.assertEqual(self.answer(0, rows, 7, 19), [1, 20])
        self.assertEqual(self.answer(0, rows, 7, 20), [0, 20])
        self.assertEqual(self.answer(0, rows, 7, 25), [0, 25])
        self.assertEqual(self.answer(0, rows, 7, 30), [0, 30])
        self.assertEqual(self.answer(0, rows, 7, 31), [1, 30])
        self.assertEqual(self.answer(0, rows, 7, 100), [70, 30])

    def test_all_differences_together(self):
        self.assertEqual(self.answer(0, [[7, 20, 30, 40, 50]], 7, 10, 60), [20, 20, 50])
        self.assertEqual(self.answer(0, [[7, 20, 30, 40, 50]], 7, 25, 0), [40, 25, 40])
        self.assertEqual(self.answer(0, [[7, 20, 30, 40, 50]], 7, 35, 45), [5, 30, 45])
        self.assertEqual(self.answer(0, [[7, 20, 30, 40, 50, 60, 70]], 7, 0, 100, 65), [70, 20, 50, 65])
        self.assertEqual(self.answer(0, [[7] + [100, 100] * 3], 7, 0, 0, 0), [300, 100, 100, 100])
        self.assertEqual(self.answer(0, [[7] + [0, 0] * 3], 7, 100, 100, 100), [300, 0, 0, 0])

    def test_the_nearer_of_several(self):
        rows = [[7, 0, 10], [7, 30, 35], [7, 90, 100]]
        self.assertEqual(self.answer(0, rows, 7, 15), [5, 10])
        self.assertEqual(self.answer(0, rows, 7, 25), [5, 30])
        self.assertEqual(self.answer(0, rows, 7, 60), [25, 35])
        self.assertEqual(self.answer(0, rows, 7, 63), [27, 90])
        # One far off in each value by a little is farther than one off in one value by less than all that.
        self.assertEqual(self.answer(0, [[7, 60, 60, 60, 60], [7, 50, 50, 69, 69]], 7, 50, 50), [19, 50, 69])
        self.assertEqual(self.answer(0, [[7, 60, 60, 60, 60], [7, 50, 50, 71, 71]], 7, 50, 50), [20, 60, 60])

    def test_what_another_rule_hides_is_gone_round(self):
        rows = [[1, 40, 60], [7, 0, 100]]
        self.assertEqual(self.answer(0, rows, 7, 45), [6, 39])
        self.assertEqual(self.answer(0, rows, 7, 55), [6, 61])
        self.assertEqual(self.answer(0, [[1, 40, 60, 0, 100], [7, 0, 100, 0, 100]], 7, 45, 8), [6, 39, 8])


class AsNear(NearestCase):
    def test_one_value(self):
        self.assertEqual(self.answer(0, [[7, 60, 60], [7, 40, 40]], 7, 50), [10, 40])
        self.assertEqual(self.answer(0, [[1, 40, 60], [7, 0, 100]], 7, 50), [11, 39])

    def test_two_values(self):
        around = [[7, 50, 50, 60, 60], [7, 60, 60, 50, 50], [7, 50, 50, 40, 40], [7, 40, 40, 50, 50]]
        self.assertEqual(self.answer(0, around, 7, 50, 50), [10, 40, 50])
        self.assertEqual(self.answer(0, around[:3], 7, 50, 50), [10, 50, 40])
        self.assertEqual(self.answer(0, around[:2], 7, 50, 50), [10, 50, 60])
        self.assertEqual(self.answer(0, around + [[7, 45, 45, 55, 55]], 7, 50, 50), [10, 40, 50])
        self.assertEqual(self.answer(0, around[:3] + [[7, 45, 45, 55, 55]], 7, 50, 50), [10, 45, 55])

    def test_two_values_around_what_hides(self):
        self.assertEqual(self.answer(0, [[1, 40, 60, 40, 60], [7, 0, 100, 0, 100]], 7, 50, 50), [11, 39, 50])
        self.assertEqual(self.answer(0, [[1, 39, 60, 40, 60], [7, 0, 100, 0, 100]], 7, 50, 50), [11, 50, 39])

    def test_three_values(self):
        rows = [[7, 50, 50, 50, 50, 51, 51], [7, 50, 50, 51, 51, 50, 50], [7, 51, 51, 50, 50, 50, 50],
                [7, 50, 50, 50, 50, 49, 49], [7, 50, 50, 49, 49, 50, 50], [7, 49, 49, 50, 50, 50, 50]]
        first = [[50, 50, 51], [50, 50, 51], [50, 50, 51], [50, 50, 49], [50, 49, 50], [49, 50, 50]]
        for many in range(1, 7):
            self.assertEqual(self.answer(0, rows[:many], 7, 50, 50, 50), [1] + first[many - 1])


class Ways(NearestCase):
    ROWS = [[2, 0, 20], [5, 15, 40], [5, 35, 60]]

    def test_way_0(self):
        self.assertEqual(self.answer(0, self.ROWS, 5, 0), [21, 21])
        self.assertEqual(self.answer(0, self.ROWS, 2, 50), [30, 20])
        self.assertEqual(self.answer(0, self.ROWS, 7, 50), [-6])

    def test_way_1(self):
        self.assertEqual(self.answer(1, self.ROWS, 5, 0), [21, 21])
        self.assertEqual(self.answer(1, self.ROWS, 2, 50), [36, 14])
        self.assertEqual(self.answer(1, self.ROWS, 7, 50), [-6])

    def test_way_2(self):
        self.assertEqual(self.answer(2, self.ROWS, 5, 0), [15, 15])
        self.assertEqual(self.answer(2, self.ROWS, 2, 50), [36, 14])
        self.assertEqual(self.answer(2, self.ROWS, 7, 50), [-6])

    def test_way_3(self):
        self.assertEqual(self.answer(3, self.ROWS, 5, 0), [21, 21])
        self.assertEqual(self.answer(3, self.ROWS, 2, 50), [36, 14])
        self.assertEqual(self.answer(3, self.ROWS, 7, 50), [30, 20])
        self.assertEqual(self.answer(3, self.ROWS, 10, 0), [35, 35])
        self.assertEqual(self.answer(3, [[1000, 0, 9]] * 6, 6000, 20), [11, 9])

    def test_tells_of_the_table_that_is_asked_and_its_way(self):
        told = ask(
            begins(1, 0, 3), rule(0, 2, 0, 20), rule(0, 5, 15, 40), rule(1, 2, 0, 20), rule(1, 5, 10, 40),
            nearest(0, 7, 0), nearest(1, 7, 0), nearest(0, 5, 0), nearest(1, 5, 0),
        )
        self.assertEqual(told[5:], [[-6], [10, 10], [21, 21], [21, 21]])


class NoSuchPoint(NearestCase):
    def test_no_rules(self):
        for way in range(4):
            for values in (1, 2, 3):
                for number in (0, 1, 6, 9, 1000, GREATEST):
                    self.assertEqual(last(begins(values, way, way), nearest(0, number, *[5] * values)), [-6])

    def test_an_answer_that_no_point_gets(self):
        for way in range(4):
            for number in (0, 6, 8, 15, 1000, 1001, GREATEST):
                self.assertEqual(self.answer(way, [[7, 0, 100], [7, 20, 50]], number, 30), [-6])

    def test_one_above_all_that_may_be_decided(self):
        for way in range(4):
            for values in (1, 2, 3):
                rows = [[1000] + [0, 100] * values] * 6
                for number in (6001, GREATEST - 8, GREATEST - 5, GREATEST):
                    self.assertEqual(self.answer(way, rows, number, *[30] * values), [-6])

    def test_a_rule_that_is_hidden_everywhere(self):
        self.assertEqual(self.answer(0, [[1, 0, 50], [7, 10, 20]], 7, 15), [-6])
        self.assertEqual(self.answer(1, [[1, 0, 50], [7, 10, 20]], 7, 15), [-6])
        self.assertEqual(self.answer(2, [[8, 0, 50], [7, 10, 20]], 7, 15), [-6])
        self.assertEqual(self.answer(3, [[1, 0, 50], [7, 10, 20]], 7, 15), [-6])

    def test_0_is_not_nothing(self):
        for way in range(4):
            self.assertEqual(self.answer(way, [[7, 20, 30]], 0, 5), [-6])
            self.assertEqual(self.answer(way, [[7, 20, 30], [0, 40, 50]], 0, 5), [35, 40])

    def test_0_is_not_a_clash(self):
        self.assertEqual(self.answer(1, [[0, 20, 30], [1, 20, 30]], 0, 25), [-6])
        self.assertEqual(self.answer(1, [[0, 20, 31], [1, 20, 30]], 0, 25), [6, 31])


class Refusals(NearestCase):
    def test_no_such_table(self):
        for table in (2, 3, GREATEST):
            self.assertEqual(last(rule(0, 7, 0, 100), nearest(table, 7, 5)), [-2])

    def test_a_point_that_is_too_short_or_too_long(self):
        for values in (1, 2, 3):
            for length in range(11):
                told = last(begins(values), rule(0, 7, *[0, 100] * values), nearest(0, 7, *[5] * length))
                self.assertEqual(told, [0] + [5] * values if length == values else [-1])

    def test_a_value_above_100(self):
        self.assertEqual(self.answer(0, [[7, 0, 100]], 7, 100), [0, 100])
        for values in (1, 2, 3):
            for place in range(values):
                for value in (101, GREATEST):
                    point = [5] * values
                    point[place] = value
                    self.assertEqual(self.answer(0, [[7] + [0, 100] * values], 7, *point), [-1])

    def test_no_such_table_is_told_ahead_of_a_wrong_point(self):
        for point in ([], [5, 5], [101]):
            self.assertEqual(ask(nearest(2, GREATEST, *point)), [[-2]])

    def test_no_such_table_is_told_ahead_of_no_such_point(self):
        self.assertEqual(ask(nearest(2, 7, 5)), [[-2]])

    def test_a_wrong_point_is_told_ahead_of_no_such_point(self):
        for point in ([], [5, 5], [101]):
            self.assertEqual(ask(nearest(0, 7, *point)), [[-1]])
            self.assertEqual(ask(nearest(1, GREATEST, *point)), [[-1]])

    def test_changes_nothing(self):
        asked = [nearest(0, 3, 20), nearest(2, 3, 5), nearest(0, 3), nearest(0, 9, 5), decides(0, 5), gaps(0)]
        told = ask(begins(1, 3, 0), rule(0, 1, 0, 9), rule(0, 2, 0, 9), *asked, *asked, rule(0, 1, 0, 0))
        self.assertEqual(told[3:9], [[11, 9], [-2], [-1], [-6], [3, 0, 1], [91, 10]])
        self.assertEqual(told[9:], told[3:9] + [[2]])

    def test_behind_drop_and_begins(self):
        told = ask(rule(0, 1, 0, 9), rule(0, 2, 0, 20), nearest(0, 2, 0), drop(0, 0), nearest(0, 2, 0),
                   begins(2), nearest(0, 2, 0), nearest(0, 2, 0, 0))
        self.assertEqual(told[2:], [[10, 10], [1], [0, 0], [0], [-1], [-6]])


if __name__ == "__main__":
    unittest.main()
