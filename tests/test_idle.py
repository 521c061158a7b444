import unittest

from asking import GREATEST, ask, begins, decides, drop, gaps, idle, last, rule


class IdleCase(unittest.TestCase):
    def answer(self, way, *rows):
        values = (len(rows[0]) - 1) // 2 if rows else 1
        return last(begins(values, way, 0), *[rule(0, *row) for row in rows], idle(0))


class EveryWay(IdleCase):
    def test_no_rules(self):
        self.assertEqual(ask(idle(0), idle(1)), [[0], [0]])
        for way in range(4):
            for values in (1, 2, 3):
                self.assertEqual(last(begins(values, way, way), idle(0)), [0])

    def test_one_rule_is_never_idle(self):
        for way in range(4):
            for says in (0, 7):
                for values in (1, 2, 3):
                    self.assertEqual(self.answer(way, [says] + [0, 100] * values), [0])
                    self.assertEqual(self.answer(way, [says] + [5, 5] * values), [0])

    def test_rules_with_no_point_together_are_not_idle(self):
        for way in range(4):
            self.assertEqual(self.answer(way, [5, 0, 10], [5, 11, 20], [0, 21, 21]), [0])

    def test_a_rule_that_alone_holds_at_one_point_is_not_idle(self):
        for way in range(4):
            told = self.answer(way, [5, 0, 50, 0, 100], [5, 51, 100, 0, 99], [5, 0, 100, 0, 100])
            self.assertEqual(told, [0] if way == 3 else [2, 0, 1])

    def test_two_rules_just_the_same(self):
        for way in (0, 1, 2):
            for values in (1, 2, 3):
                row = [7] + [10, 20] * values
                self.assertEqual(self.answer(way, row, row), [2, 0, 1])
                self.assertEqual(last(begins(values, way, way), rule(0, *row), rule(0, *row), drop(0, 0), idle(0)), [0])

    def test_two_rules_just_the_same_in_way_3(self):
        self.assertEqual(self.answer(3, [7, 10, 20], [7, 10, 20]), [0])
        self.assertEqual(self.answer(3, [0, 10, 20], [0, 10, 20]), [2, 0, 1])

    def test_six_rules_just_the_same(self):
        for way in (0, 1, 2):
            self.assertEqual(self.answer(way, *[[7, 10, 20]] * 6), [6, 0, 1, 2, 3, 4, 5])
        self.assertEqual(self.answer(3, *[[7, 10, 20]] * 6), [0])

    def test_tells_of_the_table_that_is_asked_and_its_way(self):
        for table in (0, 1):
            ways = [3, 3]
            ways[table] = 0
            told = ask(
                begins(1, *ways), rule(0, 7, 0, 9), rule(0, 7, 0, 9), rule(1, 7, 0, 9), rule(1, 7, 0, 9),
                idle(table), idle(1 - table),
            )
            self.assertEqual(told[5:], [[2, 0, 1], [0]])

    def test_three_values(self):
        for place in range(3):
            inner = [4] + [10, 20] * 3
            outer = [5] + [10, 20] * 3
            self.assertEqual(self.answer(0, outer, inner), [1, 1])
            inner[2 + 2 * place] = 21
            self.assertEqual(self.answer(0, outer, inner), [0])

    def test_no_such_table(self):
        for table in (2, 3, GREATEST):
            self.assertEqual(last(rule(0, 7, 0, 9), rule(0, 7, 0, 9), idle(table)), [-2])

    def test_changes_nothing(self):
        for way in range(4):
            asked = [idle(0), idle(1), idle(2), decides(0, 5), decides(1, 5), gaps(0)]
            rows = [rule(0, 4, 0, 9), rule(0, 4, 0, 9), rule(0, 4, 3, 5), rule(1, 4, 0, 9)]
            told = ask(begins(1, way, way), *rows, *asked, *asked, rule(0, 1, 0, 0), rule(1, 1, 0, 0))
            self.assertEqual(told[5:11], told[11:17])
            self.assertEqual(told[8], [12 if way == 3 else 4, 0, 1, 2])
            self.assertEqual(told[17:], [[3], [1]])


class Way0(IdleCase):
    def test_hidden_by_one_ahead(self):
        self.assertEqual(self.answer(0, [1, 0, 50], [2, 10, 50]), [1, 1])
        self.assertEqual(self.answer(0, [1, 0, 50], [2, 10, 51]), [0])

    def test_hidden_by_those_ahead_together_but_by_none_alone(self):
        rows = [[1, 0, 50], [2, 51, 100], [3, 20, 80]]
        self.assertEqual(self.answer(0, *rows), [1, 2])
        self.assertEqual(self.answer(0, rows[0], rows[2]), [0])
        self.assertEqual(self.answer(0, rows[1], rows[2]), [0])
        self.assertEqual(self.answer(0, [1, 0, 49], [2, 51, 100], [3, 20, 80]), [0])
        self.assertEqual(self.answer(0, [1, 0, 50, 0, 100], [2, 51, 100, 0, 50], [3, 51, 100, 51, 100],
                                     [4, 40, 60, 40, 60]), [1, 3])

    def test_says_the_same_as_a_later_one(self):
        self.assertEqual(self.answer(0, [5, 10, 20], [5, 0, 30]), [1, 0])
        self.assertEqual(self.answer(0, [5, 10, 20], [6, 0, 30]), [0])
        self.assertEqual(self.answer(0, [5, 10, 31], [5, 0, 30]), [0])

    def test_says_the_same_as_a_later_one_with_another_between(self):
        self.assertEqual(self.answer(0, [5, 10, 20], [6, 15, 15], [5, 0, 30]), [1, 1])
        self.assertEqual(self.answer(0, [5, 10, 20], [6, 21, 21], [5, 0, 30]), [1, 0])

    def test_says_the_same_as_later_ones_together(self):
        self.assertEqual(self.answer(0, [5, 10, 20], [5, 0, 15], [5, 16, 30]), [1, 0])

    def test_those_that_are_idle_rising(self):
        self.assertEqual(self.answer(0, [1, 0, 100], [2, 0, 9], [3, 100, 100], [4, 0, 100]), [3, 1, 2, 3])


class Way1(IdleCase):
    def test_leaving_it_out_ends_a_clash(self):
        self.assertEqual(self.answer(1, [1, 0, 100], [2, 50, 50]), [0])
        self.assertEqual(self.answer(1, [1, 0, 100], [1, 0, 100], [2, 50, 50]), [2, 0, 1])

    def test_leaving_it_out_makes_none(self):
        self.assertEqual(self.answer(1, [7, 0, 50], [7, 10, 20]), [1, 1])
        self.assertEqual(self.answer(1, [7, 10, 20], [7, 0, 50]), [1, 0])
        self.assertEqual(self.answer(1, [7, 0, 50], [7, 10, 51]), [0])

    def test_leaving_it_out_leaves_a_clash(self):
        self.assertEqual(self.answer(1, [1, 5, 9], [2, 5, 9], [3, 5, 9]), [3, 0, 1, 2])
        self.assertEqual(self.answer(1, [1, 5, 9], [2, 5, 9], [3, 5, 8]), [1, 2])
        self.assertEqual(self.answer(1, [1, 5, 9], [2, 5, 9], [1, 5, 9]), [2, 0, 2])

    def test_leaves_a_clash_here_and_ends_one_there(self):
        self.assertEqual(self.answer(1, [1, 0, 9], [2, 0, 8], [3, 0, 9]), [1, 1])

    def test_leaves_a_clash_here_and_nothing_there(self):
        self.assertEqual(self.answer(1, [1, 0, 9], [2, 0, 10], [3, 0, 9]), [2, 0, 2])


class Way2(IdleCase):
    def test_lower_than_another_everywhere(self):
        self.assertEqual(self.answer(2, [1, 10, 20], [2, 0, 30]), [1, 0])
        self.assertEqual(self.answer(2, [2, 0, 30], [1, 10, 20]), [1, 1])
        self.assertEqual(self.answer(2, [2, 10, 20], [1, 0, 30]), [0])
        self.assertEqual(self.answer(2, [1, 10, 31], [2, 0, 30]), [0])

    def test_as_great_as_another_everywhere(self):
        self.assertEqual(self.answer(2, [2, 10, 20], [2, 0, 30]), [1, 0])

    def test_lower_than_several_together(self):
        self.assertEqual(self.answer(2, [1, 10, 20], [2, 0, 15], [3, 16, 30]), [1, 0])


class Way3(IdleCase):
    def test_says_0_where_others_hold_everywhere_it_does(self):
        self.assertEqual(self.answer(3, [0, 10, 20], [5, 0, 30]), [1, 0])
        self.assertEqual(self.answer(3, [0, 10, 20], [5, 0, 15], [5, 16, 30]), [1, 0])

    def test_says_0_and_alone_holds_somewhere(self):
        self.assertEqual(self.answer(3, [0, 10, 31], [5, 0, 30]), [0])
        self.assertEqual(self.answer(3, [0, 10, 20], [5, 0, 14], [5, 16, 30]), [0])

    def test_says_more_than_0(self):
        self.assertEqual(self.answer(3, [1, 10, 20], [5, 0, 30]), [0])
        self.assertEqual(self.answer(3, [5, 10, 20], [0, 0, 30]), [0])


if __name__ == "__main__":
    unittest.main()
