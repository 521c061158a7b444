import itertools
import unittest

from asking import GREATEST, ask, begins, decides, gaps, last, rule, scattered_rows


def holds(row, point):
    return all(row[1 + 2 * k] <= value <= row[2 + 2 * k] for k, value in enumerate(point))


def gaps_point_by_point(rows, values):
    """The same answer found by looking at each point, in the points' order."""
    count = 0
    earliest = []
    for point in itertools.product(range(101), repeat=values):
        if not any(holds(row, point) for row in rows):
            count += 1
            earliest = earliest or list(point)
    return [count] + earliest


class Gaps(unittest.TestCase):
    def answer(self, values, *rows):
        return last(begins(values), *[rule(0, *row) for row in rows], gaps(0))

    def test_no_rules(self):
        self.assertEqual(ask(gaps(0), gaps(1)), [[101, 0], [101, 0]])
        self.assertEqual(self.answer(1), [101, 0])
        self.assertEqual(self.answer(2), [10201, 0, 0])
        self.assertEqual(self.answer(3), [1030301, 0, 0, 0])

    def test_no_gap(self):
        for values in (1, 2, 3):
            self.assertEqual(self.answer(values, [0] + [0, 100] * values), [0])
        self.assertEqual(self.answer(1, [1, 51, 100], [2, 0, 50]), [0])
        self.assertEqual(self.answer(2, [1, 0, 50, 0, 100], [1, 51, 100, 0, 49], [1, 40, 100, 50, 100]), [0])
        self.assertEqual(self.answer(3, [1, 0, 100, 0, 100, 0, 0], [1, 0, 100, 0, 100, 1, 100]), [0])

    def test_one_value(self):
        self.assertEqual(self.answer(1, [1, 0, 50]), [50, 51])
        self.assertEqual(self.answer(1, [1, 50, 100]), [50, 0])
        self.assertEqual(self.answer(1, [1, 0, 40], [1, 42, 100]), [1, 41])
        self.assertEqual(self.answer(1, [1, 0, 99]), [1, 100])
        self.assertEqual(self.answer(1, [1, 1, 100]), [1, 0])
        self.assertEqual(self.answer(1, [1, 60, 70], [1, 0, 10], [1, 5, 20]), [69, 21])

    def test_two_values(self):
        self.assertEqual(self.answer(2, [1, 0, 100, 0, 99]), [101, 0, 100])
        self.assertEqual(self.answer(2, [1, 0, 99, 0, 100]), [101, 100, 0])
        self.assertEqual(self.answer(2, [1, 0, 99, 0, 100], [1, 100, 100, 0, 99]), [1, 100, 100])
        self.assertEqual(self.answer(2, [1, 10, 19, 10, 19]), [10101, 0, 0])

    def test_three_values(self):
        self.assertEqual(self.answer(3, [1, 0, 100, 0, 100, 0, 99]), [10201, 0, 0, 100])
        self.assertEqual(self.answer(3, [1, 0, 100, 0, 99, 0, 100]), [10201, 0, 100, 0])
        self.assertEqual(self.answer(3, [1, 0, 99, 0, 100, 0, 100]), [10201, 100, 0, 0])
        self.assertEqual(self.answer(3, [1, 0, 9, 0, 9, 0, 9]), [1029301, 0, 0, 10])

    def test_the_first_is_by_the_first_place_that_differs(self):
        rows = [
            [1, 0, 2, 0, 100], [1, 3, 3, 0, 89], [1, 4, 89, 0, 100], [1, 90, 90, 4, 100], [1, 91, 100, 0, 100],
        ]
        # Uncovered are 3 with 90 to 100 and 90 with 0 to 3: the lower first value goes ahead of the lower second.
        self.assertEqual(self.answer(2, *rows), [15, 3, 90])
        self.assertEqual(gaps_point_by_point(rows, 2), [15, 3, 90])

    def test_is_told_of_all_points(self):
        for values, seeds in ((1, 40), (2, 12), (3, 2)):
            for seed in range(seeds):
                rows = scattered_rows(seed * 7919 + values, 1 + seed % 6 if values < 3 else 4 + seed, values)
                self.assertEqual(self.answer(values, *rows), gaps_point_by_point(rows, values), rows)

    def test_ways_and_clashes_make_no_gap(self):
        for way in range(4):
            told = ask(begins(1, way, way), rule(0, 1, 0, 60), rule(0, 2, 40, 99), gaps(0), gaps(1))
            self.assertEqual(told[3:], [[1, 100], [101, 0]])

    def test_tells_of_the_table_that_is_asked(self):
        told = ask(rule(0, 1, 0, 50), rule(1, 1, 10, 100), gaps(0), gaps(1))
        self.assertEqual(told[2:], [[50, 51], [10, 0]])

    def test_no_such_table(self):
        for table in (2, 3, GREATEST):
            self.assertEqual(ask(gaps(table)), [[-2]])

    def test_changes_nothing(self):
        told = ask(rule(0, 4, 3, 9), gaps(0), gaps(2), decides(0, 5), gaps(0), rule(0, 5, 0, 2), gaps(0))
        self.assertEqual(told, [[0], [94, 0], [-2], [4, 0], [94, 0], [1], [91, 10]])


if __name__ == "__main__":
    unittest.main()
