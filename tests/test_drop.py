import unittest

from asking import GREATEST, ask, decides, drop, last, rule

THREE_RULES = [rule(0, 1, 0, 10), rule(0, 2, 0, 20), rule(0, 3, 0, 30)]


class Drop(unittest.TestCase):
    def test_answers_how_many_there_are_then(self):
        told = ask(*THREE_RULES, drop(0, 1), drop(0, 1), drop(0, 0), drop(0, 0))
        self.assertEqual(told[3:], [[2], [1], [0], [-2]])

    def test_those_behind_move_up(self):
        left = {0: [[2, 0, 1], [2, 0, 1], [3, 1]], 1: [[1, 0, 1], [3, 1], [3, 1]], 2: [[1, 0, 1], [2, 1], [-6]]}
        for which in range(3):
            told = ask(*THREE_RULES, drop(0, which), decides(0, 5), decides(0, 15), decides(0, 25))
            self.assertEqual(told[4:], left[which])

    def test_next_rule_stands_behind_those_left(self):
        told = ask(*THREE_RULES, drop(0, 0), rule(0, 9, 0, 40), decides(0, 5), decides(0, 35))
        self.assertEqual(told[3:], [[2], [2], [2, 0, 1, 2], [9, 2]])

    def test_the_other_table_stays(self):
        told = ask(*THREE_RULES, rule(1, 8, 0, 10), drop(1, 0), decides(0, 5), decides(1, 5))
        self.assertEqual(told[3:], [[0], [0], [1, 0, 1, 2], [-6]])
        told = ask(*THREE_RULES, rule(1, 8, 0, 10), drop(0, 0), decides(0, 5), decides(1, 5))
        self.assertEqual(told[3:], [[0], [2], [2, 0, 1], [8, 0]])

    def test_refuses_where_there_is_no_such_table(self):
        for table in (2, 3, GREATEST):
            self.assertEqual(last(*THREE_RULES, drop(table, 0)), [-2])

    def test_refuses_where_there_is_no_such_rule(self):
        self.assertEqual(last(drop(0, 0)), [-2])
        self.assertEqual(last(drop(1, 0)), [-2])
        for which in (3, 4, GREATEST):
            self.assertEqual(last(*THREE_RULES, drop(0, which)), [-2])
        self.assertEqual(last(*THREE_RULES, drop(1, 0)), [-2])

    def test_refused_changes_nothing(self):
        for refused in (drop(2, 0), drop(0, 3), drop(1, 0), drop(GREATEST, GREATEST)):
            told = ask(*THREE_RULES, refused, decides(0, 5), drop(0, 0))
            self.assertEqual(told[3:], [[-2], [1, 0, 1, 2], [2]])


if __name__ == "__main__":
    unittest.main()
