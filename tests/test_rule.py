import unittest

from asking import GREATEST, ask, begins, decides, drop, gaps, last, rule

SIX_RULES = [rule(0, k, 0, 100) for k in range(6)]


class Rule(unittest.TestCase):
    def test_answers_which_it_is_in_each_table(self):
        told = ask(rule(0, 1, 0, 9), rule(1, 1, 0, 9), rule(0, 2, 0, 9), rule(0, 2, 0, 9), rule(1, 3, 5, 5))
        self.assertEqual(told, [[0], [0], [1], [2], [1]])

    def test_refuses_a_table_above_1(self):
        for table in (2, 3, GREATEST):
            self.assertEqual(ask(rule(table, 1, 0, 9)), [[-2]])

    def test_refuses_a_row_of_another_length(self):
        for values in (1, 2, 3):
            for length in range(11):
                answer = last(begins(values), rule(0, *[5] * length))
                self.assertEqual(answer, [0] if length == 1 + 2 * values else [-1])

    def test_number_is_at_most_1000(self):
        self.assertEqual(ask(rule(0, 0, 0, 9)), [[0]])
        self.assertEqual(ask(rule(0, 1000, 0, 9), decides(0, 3)), [[0], [1000, 0]])
        for number in (1001, GREATEST):
            self.assertEqual(ask(rule(0, number, 0, 9)), [[-1]])

    def test_first_is_not_above_last(self):
        self.assertEqual(ask(rule(0, 1, 9, 9)), [[0]])
        self.assertEqual(ask(rule(0, 1, 10, 9)), [[-1]])
        self.assertEqual(ask(rule(0, 1, GREATEST, 100)), [[-1]])

    def test_last_is_at_most_100(self):
        self.assertEqual(ask(rule(0, 1, 100, 100)), [[0]])
        self.assertEqual(ask(rule(0, 1, 0, 100)), [[0]])
        for first, end in ((0, 101), (101, 101), (0, GREATEST), (GREATEST, GREATEST)):
            self.assertEqual(ask(rule(0, 1, first, end)), [[-1]])

    def test_each_of_several_ranges_is_looked_at(self):
        for values in (2, 3):
            for place in range(values):
                for first, end in ((10, 9), (0, 101)):
                    row = [1] + [0, 9] * values
                    row[1 + 2 * place] = first
                    row[2 + 2 * place] = end
                    self.assertEqual(last(begins(values), rule(0, *row)), [-1])

    def test_refuses_the_seventh_rule(self):
        told = ask(*SIX_RULES, rule(0, 9, 0, 100), rule(1, 9, 0, 100), drop(0, 2), rule(0, 9, 0, 100))
        self.assertEqual(told, [[0], [1], [2], [3], [4], [5], [-7], [0], [5], [5]])

    def test_of_several_refusals_the_first_told(self):
        self.assertEqual(last(rule(2, 1001, 0, 9)), [-2])
        self.assertEqual(last(rule(2)), [-2])
        self.assertEqual(last(*SIX_RULES, rule(2, 1, 0, 9)), [-2])
        for row in ([], [1], [1, 0], [1, 0, 9, 0], [1001, 0, 9], [1, 9, 0], [1, 0, 101]):
            self.assertEqual(last(*SIX_RULES, rule(0, *row)), [-1])

    def test_refused_changes_nothing(self):
        for refused in (rule(2, 7, 0, 100), rule(0), rule(0, 1001, 0, 100), rule(0, 7, 9, 0), rule(0, 7, 0, 101)):
            told = ask(rule(0, 4, 3, 9), refused, decides(0, 5), decides(0, 50), decides(1, 5), gaps(0), drop(0, 0))
            self.assertEqual(told[2:], [[4, 0], [-6], [-6], [94, 0], [0]])

    def test_refused_seventh_changes_nothing(self):
        told = ask(begins(1, 3, 3), *SIX_RULES, rule(0, 900, 0, 100), decides(0, 5), drop(0, 0))
        self.assertEqual(told[-3:], [[-7], [15, 0, 1, 2, 3, 4, 5], [5]])


if __name__ == "__main__":
    unittest.main()
