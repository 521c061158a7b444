import unittest

from asking import GREATEST, ask, begins, decides, gaps, last, rule


class Begins(unittest.TestCase):
    def test_answers_0_for_all_values_and_ways_there_are(self):
        for values in (1, 2, 3):
            for first in range(4):
                for second in range(4):
                    self.assertEqual(ask(begins(values, first, second)), [[0]])

    def test_refuses_a_count_of_values_that_is_not_1_to_3(self):
        for values in (0, 4, 5, 100, GREATEST):
            self.assertEqual(ask(begins(values)), [[-1]])

    def test_refuses_a_way_above_3_of_each_table(self):
        for way in (4, 5, 100, GREATEST):
            self.assertEqual(ask(begins(1, way, 0)), [[-1]])
            self.assertEqual(ask(begins(1, 0, way)), [[-1]])
            self.assertEqual(ask(begins(3, way, way)), [[-1]])

    def test_refuses_all_wrong_at_once(self):
        self.assertEqual(ask(begins(GREATEST, GREATEST, GREATEST)), [[-1]])

    def test_sets_how_many_values_points_have(self):
        for values in (1, 2, 3):
            for given in range(5):
                answer = last(begins(values), decides(0, *[0] * given))
                self.assertEqual(answer, [-6] if given == values else [-1])

    def test_sets_the_way_of_each_table(self):
        decided = {0: [4, 0, 1], 1: [-9], 2: [7, 0, 1], 3: [11, 0, 1]}
        for first in range(4):
            for second in range(4):
                told = ask(
                    begins(1, first, second),
                    rule(0, 4, 0, 100), rule(0, 7, 0, 100), rule(1, 4, 0, 100), rule(1, 7, 0, 100),
                    decides(0, 5), decides(1, 5),
                )
                self.assertEqual(told[-2:], [decided[first], decided[second]])

    def test_leaves_no_rules_in_both_tables(self):
        told = ask(
            rule(0, 1, 0, 100), rule(1, 2, 0, 100), begins(1),
            decides(0, 5), decides(1, 5), gaps(0), gaps(1), rule(0, 1, 0, 0), rule(1, 1, 0, 0),
        )
        self.assertEqual(told[2:], [[0], [-6], [-6], [101, 0], [101, 0], [0], [0]])

    def test_refused_leaves_rules_ways_and_values(self):
        refused = (begins(0, 1, 1), begins(4, 1, 1), begins(1, 4, 1), begins(1, 1, 4), begins(3, GREATEST, 0))
        for call in refused:
            told = ask(
                begins(2, 3, 2),
                rule(0, 4, 0, 9, 0, 9), rule(0, 7, 0, 9, 0, 9), rule(1, 4, 0, 9, 0, 9), rule(1, 7, 0, 9, 0, 9),
                call,
                decides(0, 5, 5), decides(1, 5, 5), decides(0, 5), gaps(0), rule(0, 1, 0, 0, 0, 0),
            )
            self.assertEqual(told[5:], [[-1], [11, 0, 1], [7, 0, 1], [-1], [10101, 0, 10], [2]])


if __name__ == "__main__":
    unittest.main()
