import contextlib
import io
import unittest

from asking import begins, decides, drop, gaps, rule
from decisions.tables import answers

LINE = (
    begins(2, 3, 1) + rule(0, 5, 0, 50, 0, 50) + rule(0, 6, 50, 100, 50, 100) + rule(1, 8)
    + decides(0, 50, 50) + decides(0, 60, 0) + gaps(0) + drop(0, 0) + decides(0, 50, 50) + begins(9) + gaps(2)
)
TOLD = [
    1, 0, 1, 0, 1, 1, 1, -1,
    3, 11, 0, 1, 1, -6, 3, 5000, 0, 51, 1, 1, 2, 6, 0, 1, -1, 1, -2,
]


class Answers(unittest.TestCase):
    def test_each_answer_stands_behind_the_count_of_its_numbers(self):
        self.assertEqual(answers(LINE), TOLD)

    def test_one_call_alone(self):
        self.assertEqual(answers([0, 1, 0, 0]), [1, 0])
        self.assertEqual(answers([1, 0, 3, 7, 0, 9]), [1, 0])
        self.assertEqual(answers([1, 0, 0]), [1, -1])
        self.assertEqual(answers([2, 0, 0]), [1, -2])
        self.assertEqual(answers([3, 1, 1, 5]), [1, -6])
        self.assertEqual(answers([3, 1, 0]), [1, -1])
        self.assertEqual(answers([4, 1]), [2, 101, 0])

    def test_refused_rows_are_gone_past_whole(self):
        for length in range(11):
            for table in (0, 2):
                line = [1, table, length] + [200] * length + [3, table, length] + [200] * length + [4, 0]
                refusal = -1 if table == 0 else -2
                self.assertEqual(answers(line), [1, refusal, 1, refusal, 2, 101, 0])

    def test_at_the_beginning_points_have_one_value_and_there_are_no_rules(self):
        self.assertEqual(answers(gaps(0) + gaps(1) + decides(0, 5) + decides(1, 5) + decides(0, 5, 5)),
                         [2, 101, 0, 2, 101, 0, 1, -6, 1, -6, 1, -1])
        self.assertEqual(answers(drop(0, 0) + drop(1, 0) + rule(0, 1, 0, 0) + rule(1, 1, 0, 0)),
                         [1, -2, 1, -2, 1, 0, 1, 0])

    def test_at_the_beginning_both_tables_have_way_0(self):
        for table in (0, 1):
            line = rule(table, 4, 0, 9) + rule(table, 7, 0, 9) + rule(table, 1, 0, 9) + decides(table, 5)
            self.assertEqual(answers(line), [1, 0, 1, 1, 1, 2, 4, 4, 0, 1, 2])

    def test_sixty_calls(self):
        self.assertEqual(answers(decides(0, 5) * 60), [1, -6] * 60)

    def test_what_is_handed_in_is_the_same_after(self):
        line = list(LINE)
        answers(line)
        self.assertEqual(line, LINE)

    def test_nothing_is_kept_from_one_time_to_the_next(self):
        line = list(LINE)
        self.assertEqual(answers(line), TOLD)
        self.assertEqual(answers(line), TOLD)
        answers(begins(3, 3, 3) + rule(0, 1, 0, 100, 0, 100, 0, 100))
        self.assertEqual(answers(gaps(0)), [2, 101, 0])

    def test_what_is_given_back_is_a_new_list_of_whole_numbers(self):
        told = answers(LINE)
        self.assertIs(type(told), list)
        self.assertEqual({type(number) for number in told}, {int})
        told.clear()
        self.assertEqual(answers(LINE), TOLD)

    def test_nothing_is_printed(self):
        out = io.StringIO()
        with contextlib.redirect_stdout(out), contextlib.redirect_stderr(out):
            answers(LINE)
        self.assertEqual(out.getvalue(), "")


if __name__ == "__main__":
    unittest.main()
