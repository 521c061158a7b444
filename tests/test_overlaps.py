import unittest

from asking import GREATEST, ask, begins, decides, drop, gaps, last, overlaps, rule


class Overlaps(unittest.TestCase):
    def answer(self, values, *rows):
        return last(begins(values), *[rule(0, *row) for row in rows], overlaps(0))

    def test_no_rules(self):
        self.assertEqual(ask(overlaps(0), overlaps(1)), [[0], [0]])
        for values in (1, 2, 3):
            self.assertEqual(self.answer(values), [0])

    def test_one_rule(self):
        for values in (1, 2, 3):
            self.assertEqual(self.answer(values, [7] + [0, 100] * values), [0])

    def test_no_point_together(self):
        self.assertEqual(self.answer(1, [1, 0, 49], [1, 50, 100]), [0])
        self.assertEqual(self.answer(1, [1, 50, 100], [1, 0, 49]), [0])
        self.assertEqual(self.answer(1, [1, 0, 0], [1, 100, 100]), [0])
        self.assertEqual(self.answer(2, [1, 0, 49, 0, 49], [1, 50, 100, 50, 100]), [0])

    def test_one_point_alone(self):
        self.assertEqual(self.answer(1, [1, 0, 50], [2, 50, 100]), [1, 0, 1])
        self.assertEqual(self.answer(1, [1, 50, 100], [2, 0, 50]), [1, 0, 1])
        self.assertEqual(self.answer(2, [1, 0, 50, 50, 100], [2, 50, 100, 0, 50]), [1, 0, 1])
        self.assertEqual(self.answer(3, [1, 0, 9, 0, 9, 0, 9], [2, 9, 20, 9, 20, 9, 20]), [1, 0, 1])
        self.assertEqual(self.answer(1, [1, 0, 0], [2, 0, 0]), [1, 0, 1])
        self.assertEqual(self.answer(1, [1, 100, 100], [2, 0, 100]), [1, 0, 1])

    def test_one_within_the_other(self):
        self.assertEqual(self.answer(1, [1, 0, 100], [2, 40, 60]), [1, 0, 1])
        self.assertEqual(self.answer(1, [1, 40, 60], [2, 0, 100]), [1, 0, 1])
        self.assertEqual(self.answer(2, [1, 0, 100, 50, 50], [2, 50, 50, 0, 100]), [1, 0, 1])

    def test_meeting_in_some_values_but_not_in_all(self):
        for values in (2, 3):
            for place in range(values):
                one = [1] + [0, 60] * values
                other = [2] + [40, 100] * values
                self.assertEqual(self.answer(values, one, other), [1, 0, 1])
                other[1 + 2 * place] = 61
                self.assertEqual(self.answer(values, one, other), [0])
                self.assertEqual(self.answer(values, other, one), [0])

    def test_meeting_in_one_value_alone(self):
        for place in range(3):
            other = [2] + [61, 100] * 3
            other[1 + 2 * place] = 0
            self.assertEqual(self.answer(3, [1] + [0, 60] * 3, other), [0])

    def test_several_pairs_by_the_lower_then_by_the_other(self):
        self.assertEqual(self.answer(1, [1, 0, 10], [1, 20, 30], [1, 5, 25], [1, 8, 9]), [4, 0, 2, 0, 3, 1, 2, 2, 3])
        self.assertEqual(self.answer(1, [1, 90, 95], [1, 50, 60], [1, 0, 10], [1, 10, 50], [1, 95, 95]),
                         [3, 0, 4, 1, 3, 2, 3])

    def test_pairs_that_meet_in_no_one_point(self):
        self.assertEqual(self.answer(2, [1, 0, 9, 0, 100], [1, 0, 100, 91, 100], [1, 5, 100, 0, 90]), [2, 0, 1, 0, 2])

    def test_all_pairs_of_six(self):
        for values in (1, 2, 3):
            told = self.answer(values, *[[k] + [k, 100 - k] * values for k in range(6)])
            pairs = [number for low in range(6) for high in range(low + 1, 6) for number in (low, high)]
            self.assertEqual(told, [15] + pairs)

    def test_ways_and_numbers_are_nothing_to_it(self):
        for way in range(4):
            for says in (0, 1):
                told = ask(begins(1, way, way), rule(0, 0, 0, 60), rule(0, says, 60, 100), overlaps(0), overlaps(1))
                self.assertEqual(told[3:], [[1, 0, 1], [0]])

    def test_tells_of_the_table_that_is_asked(self):
        told = ask(rule(0, 1, 0, 50), rule(1, 1, 0, 50), rule(1, 1, 7, 7), overlaps(0), overlaps(1))
        self.assertEqual(told[3:], [[0], [1, 0, 1]])

    def test_behind_drop_and_begins(self):
        told = ask(
            rule(0, 1, 0, 10), rule(0, 1, 20, 30), rule(0, 1, 5, 25), overlaps(0),
            drop(0, 0), overlaps(0), begins(1), overlaps(0),
        )
        self.assertEqual(told[3:], [[2, 0, 2, 1, 2], [2], [1, 0, 1], [0], [0]])

    def test_no_such_table(self):
        for table in (2, 3, GREATEST):
            self.assertEqual(last(rule(0, 1, 0, 9), rule(0, 1, 0, 9), overlaps(table)), [-2])

    def test_changes_nothing(self):
        told = ask(rule(0, 4, 3, 9), rule(0, 5, 8, 9), overlaps(0), overlaps(2), decides(0, 9), gaps(0), overlaps(0),
                   rule(0, 6, 0, 3), overlaps(0))
        self.assertEqual(told[2:], [[1, 0, 1], [-2], [4, 0, 1], [94, 0], [1, 0, 1], [2], [2, 0, 1, 0, 2]])


if __name__ == "__main__":
    unittest.main()
