import unittest

from asking import GREATEST, ask, begins, decides, last, rule


def decided(way, *says):
    """What a table of this way decides at 5, where a rule for each of these numbers holds, and one that doesn't."""
    return last(begins(1, way, 0), rule(0, 999, 6, 9), *[rule(0, number, 0, 9) for number in says], decides(0, 5))


class Ways(unittest.TestCase):
    def test_no_rule_holds(self):
        for way in range(4):
            self.assertEqual(last(begins(1, way, way), decides(0, 5)), [-6])
            self.assertEqual(decided(way), [-6])

    def test_one_rule_holds(self):
        for way in range(4):
            self.assertEqual(decided(way, 7), [7, 1])
            self.assertEqual(decided(way, 1000), [1000, 1])

    def test_a_number_0_is_decided(self):
        for way in range(4):
            self.assertEqual(decided(way, 0), [0, 1])
            self.assertEqual(decided(way, 0, 0), [0, 1, 2])

    def test_way_0_is_what_the_first_says(self):
        self.assertEqual(decided(0, 7, 3, 9), [7, 1, 2, 3])
        self.assertEqual(decided(0, 0, 3), [0, 1, 2])
        self.assertEqual(decided(0, 9, 9, 7), [9, 1, 2, 3])

    def test_way_1_is_what_all_say(self):
        self.assertEqual(decided(1, 7, 7), [7, 1, 2])
        self.assertEqual(decided(1, 7, 7, 7, 7, 7), [7, 1, 2, 3, 4, 5])

    def test_way_1_with_different_numbers_is_a_clash_alone(self):
        for says in ((7, 8), (8, 7), (7, 7, 8), (7, 8, 7), (8, 7, 7), (0, 1), (1, 0), (1, 2, 3)):
            self.assertEqual(decided(1, *says), [-9])

    def test_way_2_is_the_greatest(self):
        self.assertEqual(decided(2, 3, 9, 7), [9, 1, 2, 3])
        self.assertEqual(decided(2, 9, 3), [9, 1, 2])
        self.assertEqual(decided(2, 3, 9), [9, 1, 2])

    def test_way_3_is_all_added_up(self):
        self.assertEqual(decided(3, 3, 9, 7), [19, 1, 2, 3])
        self.assertEqual(decided(3, 7, 7), [14, 1, 2])
        self.assertEqual(decided(3, *[1000] * 5), [5000, 1, 2, 3, 4, 5])

    def test_table_1_decides_by_its_own_way_and_rules(self):
        told = ask(begins(1, 0, 3), rule(0, 1, 0, 9), rule(1, 2, 0, 9), rule(1, 3, 0, 9), decides(0, 5), decides(1, 5))
        self.assertEqual(told[-2:], [[1, 0], [5, 0, 1]])


class Holding(unittest.TestCase):
    def test_the_rules_that_hold_rising(self):
        told = ask(
            rule(0, 1, 50, 60), rule(0, 2, 0, 9), rule(0, 3, 5, 5), rule(0, 4, 6, 100), rule(0, 5, 0, 5),
            decides(0, 5), decides(0, 6), decides(0, 55), decides(0, 61),
        )
        self.assertEqual(told[5:], [[2, 1, 2, 4], [2, 1, 3], [1, 0, 3], [4, 3]])

    def test_both_ends_of_a_range_are_with_it(self):
        told = ask(rule(0, 1, 10, 20), *[decides(0, value) for value in (9, 10, 15, 20, 21)])
        self.assertEqual(told[1:], [[-6], [1, 0], [1, 0], [1, 0], [-6]])
        told = ask(rule(0, 1, 0, 0), rule(0, 2, 100, 100), *[decides(0, value) for value in (0, 1, 99, 100)])
        self.assertEqual(told[2:], [[1, 0], [-6], [-6], [2, 1]])

    def test_each_value_is_held_against_its_own_range(self):
        told = ask(
            begins(3), rule(0, 1, 10, 20, 30, 40, 50, 60), decides(0, 10, 30, 50), decides(0, 20, 40, 60),
            decides(0, 9, 35, 55), decides(0, 21, 35, 55), decides(0, 15, 29, 55), decides(0, 15, 41, 55),
            decides(0, 15, 35, 49), decides(0, 15, 35, 61),
        )
        self.assertEqual(told[2:], [[1, 0]] * 2 + [[-6]] * 6)
        told = ask(begins(2), rule(0, 1, 10, 20, 30, 40), decides(0, 15, 35), decides(0, 35, 15), decides(0, 15, 15))
        self.assertEqual(told[2:], [[1, 0], [-6], [-6]])


class Refusals(unittest.TestCase):
    def test_no_such_table(self):
        for table in (2, 3, GREATEST):
            self.assertEqual(ask(decides(table, 5)), [[-2]])

    def test_a_point_that_is_too_short_or_too_long(self):
        for values in (1, 2, 3):
            everywhere = rule(0, 7, *[0, 100] * values)
            for length in range(11):
                answer = last(begins(values), everywhere, decides(0, *[5] * length))
                self.assertEqual(answer, [7, 0] if length == values else [-1])

    def test_a_value_above_100(self):
        self.assertEqual(ask(rule(0, 7, 0, 100), decides(0, 100), decides(0, 101)), [[0], [7, 0], [-1]])
        for values in (1, 2, 3):
            for place in range(values):
                for value in (101, GREATEST):
                    point = [5] * values
                    point[place] = value
                    self.assertEqual(last(begins(values), decides(0, *point)), [-1])

    def test_no_such_table_is_told_ahead_of_a_wrong_point(self):
        for point in ([], [5, 5], [101]):
            self.assertEqual(ask(decides(2, *point)), [[-2]])

    def test_a_wrong_point_is_told_ahead_of_nothing_and_a_clash(self):
        clashing = [begins(1, 1, 0), rule(0, 1, 0, 100), rule(0, 2, 0, 100)]
        self.assertEqual(last(*clashing, decides(0, 101)), [-1])
        self.assertEqual(last(*clashing, decides(1, 101)), [-1])

    def test_changes_nothing(self):
        asked = [decides(0, 5), decides(2, 5), decides(0, 101), decides(0), decides(1, 5), decides(0, 50)]
        told = ask(begins(1, 3, 0), rule(0, 1, 0, 9), rule(0, 2, 0, 9), *asked, *asked)
        self.assertEqual(told[3:9], [[3, 0, 1], [-2], [-1], [-1], [-6], [-6]])
        self.assertEqual(told[9:], told[3:9])


if __name__ == "__main__":
    unittest.main()
