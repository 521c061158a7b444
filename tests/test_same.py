import unittest

from asking import ask, begins, decides, drop, gaps, last, rule, same


class SameCase(unittest.TestCase):
    def check(self, told, values, one, other):
        """one and other are each a way and rows; which of them is table 0 is all the same."""
        for first, second in ((one, other), (other, one)):
            rules = [rule(0, *row) for row in first[1:]] + [rule(1, *row) for row in second[1:]]
            self.assertEqual(last(begins(values, first[0], second[0]), *rules, same()), told)


class Alike(SameCase):
    def test_no_rules(self):
        self.assertEqual(ask(same()), [[0]])
        for values in (1, 2, 3):
            for way in range(4):
                self.check([0], values, [0], [way])

    def test_by_the_same_rules(self):
        for way in range(4):
            self.check([0], 1, [way, [5, 0, 9], [7, 5, 20]], [way, [5, 0, 9], [7, 5, 20]])
            self.check([0], 2, [way, [5, 0, 9, 3, 4]], [way, [5, 0, 9, 3, 4]])
            self.check([0], 3, [way, [5, 0, 9, 3, 4, 1, 1]], [way, [5, 0, 9, 3, 4, 1, 1]])

    def test_by_other_rules(self):
        for way in range(4):
            self.check([0], 1, [way, [5, 0, 100]], [way, [5, 51, 100], [5, 0, 50]])
            self.check([0], 2, [way, [5, 0, 9, 0, 9]], [way, [5, 0, 4, 0, 9], [5, 5, 9, 0, 3], [5, 5, 9, 4, 9]])
            self.check([0], 3, [way, [5] + [0, 9] * 3], [way, [5, 0, 9, 0, 9, 0, 3], [5, 0, 9, 0, 9, 4, 9]])

    def test_by_other_ways(self):
        self.check([0], 1, [0, [5, 0, 100]], [3, [2, 0, 100], [3, 0, 100]])
        self.check([0], 1, [0, [7, 10, 20], [5, 0, 30]], [2, [5, 0, 30], [7, 10, 20]])
        self.check([0], 1, [1, [5, 0, 30], [5, 10, 40]], [0, [5, 0, 40]])

    def test_a_clash_against_a_clash(self):
        self.check([0], 1, [1, [1, 0, 9], [2, 0, 9]], [1, [3, 0, 9], [4, 0, 9], [5, 0, 9]])
        self.check([0], 2, [1, [1, 0, 9, 7, 7], [2, 0, 9, 7, 7]], [1, [3, 0, 9, 7, 7], [4, 0, 9, 7, 7]])

    def test_number_0_against_number_0(self):
        self.check([0], 1, [0, [0, 0, 9]], [3, [0, 0, 9], [0, 0, 5]])


class Unlike(SameCase):
    def test_nothing_against_a_number(self):
        self.check([10, 3], 1, [0], [0, [5, 3, 12]])
        self.check([1, 100], 1, [0, [5, 0, 99]], [0, [5, 0, 100]])

    def test_nothing_against_the_number_0(self):
        for way in range(4):
            self.check([10, 3], 1, [way], [way, [0, 3, 12]])

    def test_a_clash_against_a_number(self):
        self.check([3, 8], 1, [1, [1, 0, 10], [2, 8, 20]], [0, [1, 0, 10], [2, 8, 20]])
        self.check([3, 8], 1, [1, [0, 8, 10], [2, 8, 10]], [2, [0, 8, 10]])

    def test_nothing_against_a_clash(self):
        self.check([3, 8], 1, [1, [1, 8, 10], [2, 8, 10]], [1])
        self.check([3, 8], 1, [1, [1, 8, 10], [2, 8, 10]], [0])

    def test_a_number_against_another(self):
        self.check([101, 0], 1, [0, [1, 0, 100]], [0, [2, 0, 100]])
        self.check([10, 5], 1, [0, [1, 0, 14], [2, 5, 30]], [2, [1, 0, 14], [2, 5, 30]])
        self.check([10, 5], 1, [2, [1, 0, 14], [2, 5, 30]], [3, [1, 0, 14], [2, 5, 30]])

    def test_at_one_point(self):
        self.check([1, 50], 1, [0, [5, 0, 100]], [0, [6, 50, 50], [5, 0, 100]])
        self.check([1, 0], 1, [0, [5, 0, 100]], [0, [5, 1, 100]])
        self.check([1, 50, 60], 2, [0, [5] + [0, 100] * 2], [0, [6, 50, 50, 60, 60], [5] + [0, 100] * 2])
        self.check([1, 100, 0, 7], 3, [0, [5] + [0, 100] * 3],
                   [0, [6, 100, 100, 0, 0, 7, 7], [5] + [0, 100] * 3])

    def test_at_many_points(self):
        self.check([10201, 0, 0], 2, [0, [5] + [0, 100] * 2], [0])
        self.check([1030301, 0, 0, 0], 3, [0, [5] + [0, 100] * 3], [0])
        self.check([1030301 - 1000, 0, 0, 0], 3, [0, [5] + [0, 100] * 3], [0, [5] + [20, 29] * 3])
        self.check([24, 20, 30, 40], 3, [0, [5, 20, 21, 30, 32, 40, 43]], [0])

    def test_the_first_by_the_first_place_that_differs(self):
        self.check([15, 3, 90], 2, [0, [1, 90, 90, 0, 3], [1, 3, 3, 90, 100]], [0])
        self.check([15, 3, 90], 2, [0, [1, 90, 90, 0, 3]], [0, [1, 3, 3, 90, 100]])
        self.check([3, 7, 5, 90], 3, [0, [1, 7, 7, 5, 5, 90, 90], [1, 8, 8, 0, 0, 0, 0]], [0, [1, 7, 7, 6, 6, 0, 0]])

    def test_the_first_is_not_in_the_first_rule(self):
        self.check([2, 10], 1, [0, [1, 80, 80]], [0, [1, 10, 10]])


class Same(SameCase):
    def test_has_no_numbers_and_changes_nothing(self):
        told = ask(
            begins(1, 0, 2), rule(0, 1, 0, 9), rule(1, 1, 0, 9), same(), rule(1, 2, 9, 9), same(), same(),
            decides(0, 9), decides(1, 9), gaps(0), drop(1, 0), same(),
        )
        self.assertEqual(told[3:], [[0], [1], [1, 9], [1, 9], [1, 0], [2, 0, 1], [91, 10], [1], [10, 0]])

    def test_behind_drop_and_begins(self):
        told = ask(rule(0, 1, 0, 9), same(), drop(0, 0), same(), rule(1, 1, 5, 9), same(), begins(2), same())
        self.assertEqual(told, [[0], [10, 0], [0], [0], [0], [5, 5], [0], [0]])


if __name__ == "__main__":
    unittest.main()
