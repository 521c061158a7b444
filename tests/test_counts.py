import unittest

from asking import GREATEST, ask, begins, counts, decides, drop, gaps, last, rule


class Counts(unittest.TestCase):
    def answer(self, values, way, *rows):
        told = last(begins(values, way, 0), *[rule(0, *row) for row in rows], counts(0))
        self.assertEqual(sum(told), 101 ** values)
        return told

    def test_no_rules(self):
        self.assertEqual(ask(counts(0), counts(1)), [[101, 0, 0], [101, 0, 0]])
        for way in range(4):
            self.assertEqual(self.answer(1, way), [101, 0, 0])
            self.assertEqual(self.answer(2, way), [10201, 0, 0])
            self.assertEqual(self.answer(3, way), [1030301, 0, 0])

    def test_a_rule_that_holds_everywhere(self):
        for way in range(4):
            for values in (1, 2, 3):
                for says in (0, 5):
                    self.assertEqual(self.answer(values, way, [says] + [0, 100] * values), [0, 0, 101 ** values])

    def test_a_rule_that_holds_at_one_point(self):
        for way in range(4):
            for values in (1, 2, 3):
                self.assertEqual(self.answer(values, way, [5] + [100, 100] * values), [101 ** values - 1, 0, 1])

    def test_way_1_with_clashes(self):
        self.assertEqual(self.answer(1, 1, [1, 0, 10], [2, 8, 20]), [80, 3, 18])
        self.assertEqual(self.answer(1, 1, [0, 0, 100], [1, 0, 100]), [0, 101, 0])
        self.assertEqual(self.answer(2, 1, [1, 0, 9, 0, 9], [2, 9, 18, 9, 18]), [10002, 1, 198])
        self.assertEqual(self.answer(3, 1, [1] + [0, 9] * 3, [2] + [5, 14] * 3), [1028426, 125, 1750])

    def test_way_1_with_rules_that_say_the_same(self):
        self.assertEqual(self.answer(1, 1, [1, 0, 10], [1, 8, 20]), [80, 0, 21])
        self.assertEqual(self.answer(1, 1, [1, 0, 10], [1, 8, 20], [2, 10, 15]), [80, 6, 15])

    def test_a_clash_of_three_is_counted_once(self):
        self.assertEqual(self.answer(1, 1, [1, 0, 10], [2, 0, 10], [3, 0, 10]), [90, 11, 0])

    def test_the_other_ways_have_no_clash(self):
        for way in (0, 2, 3):
            self.assertEqual(self.answer(1, way, [1, 0, 10], [2, 8, 20]), [80, 0, 21])
            self.assertEqual(self.answer(2, way, [1, 0, 9, 0, 9], [2, 9, 18, 9, 18]), [10002, 0, 199])
            self.assertEqual(self.answer(3, way, [1] + [0, 9] * 3, [2] + [5, 14] * 3), [1028426, 0, 1875])

    def test_tells_of_the_table_that_is_asked_and_its_way(self):
        told = ask(begins(1, 0, 1), rule(0, 1, 0, 50), rule(1, 1, 0, 10), rule(1, 2, 10, 20), counts(0), counts(1))
        self.assertEqual(told[4:], [[50, 0, 51], [80, 1, 20]])

    def test_behind_drop_and_begins(self):
        told = ask(
            begins(1, 1, 1), rule(0, 1, 0, 10), rule(0, 2, 8, 20), counts(0), drop(0, 1), counts(0), begins(2), counts(0),
        )
        self.assertEqual(told[3:], [[80, 3, 18], [1], [90, 0, 11], [0], [10201, 0, 0]])

    def test_no_such_table(self):
        for table in (2, 3, GREATEST):
            self.assertEqual(ask(counts(table)), [[-2]])

    def test_changes_nothing(self):
        asked = [counts(0), counts(2), decides(0, 9), gaps(0), counts(1)]
        told = ask(begins(1, 1, 0), rule(0, 1, 0, 10), rule(0, 2, 10, 20), *asked, *asked, rule(0, 3, 0, 0))
        self.assertEqual(told[3:8], [[80, 1, 20], [-2], [1, 0], [80, 21], [101, 0, 0]])
        self.assertEqual(told[8:], told[3:8] + [[2]])


if __name__ == "__main__":
    unittest.main()
