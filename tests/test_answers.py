import contextlib
import io
import unittest

from asking import GREATEST, begins, counts, decides, drop, gaps, idle, nearest, overlaps, parted, rule, same
from decisions.tables import answers

LINE = (
    begins(2, 3, 1) + rule(0, 5, 0, 50, 0, 50) + rule(0, 6, 50, 100, 50, 100) + rule(1, 8)
    + decides(0, 50, 50) + decides(0, 60, 0) + gaps(0) + drop(0, 0) + decides(0, 50, 50) + begins(9) + gaps(2)
)
TOLD = [
    1, 0, 1, 0, 1, 1, 1, -1,
    3, 11, 0, 1, 1, -6, 3, 5000, 0, 51, 1, 1, 2, 6, 0, 1, -1, 1, -2,
]

ALL_CALLS = (
    rule(0, 3, 0, 9) + same() + begins(2, 1, 0)
    + rule(0, 5, 0, 50, 0, 50) + rule(0, 6, 50, 100, 50, 100) + rule(0, 5, 0, 9, 0, 9) + rule(1, 5, 0, 50, 0, 50)
    + rule(1, 9, 7, 7, 7, 7) + drop(1, 1) + decides(0, 0, 0) + decides(0, 50, 50)
    + gaps(0) + overlaps(0) + idle(0) + same() + counts(0) + nearest(0, 6, 50, 50) + nearest(0, 7, 50, 50)
    + overlaps(2) + idle(2) + counts(2) + nearest(2, 6, 50) + nearest(1, 6, 50) + drop(0, 2) + overlaps(0) + same()
)
ALL_TOLD = [
    1, 0, 2, 10, 0, 1, 0,
    1, 0, 1, 1, 1, 2, 1, 0,
    1, 1, 1, 1, 3, 5, 0, 2, 1, -9,
    3, 5000, 0, 51, 5, 2, 0, 1, 0, 2, 2, 1, 2, 3, 2601, 50, 50, 3, 5000, 1, 5200, 3, 1, 50, 51, 1, -6,
    1, -2, 1, -2, 1, -2, 1, -2, 1, -1, 1, 2, 3, 1, 0, 1, 3, 2601, 50, 50,
]


class Untouchable(list):
    """A list that fails where it's changed, be it for a while."""

    def refuse(self, *args, **keywords):
        raise AssertionError("what was handed in is changed")

    append = extend = insert = pop = remove = clear = sort = reverse = refuse
    __setitem__ = __delitem__ = __iadd__ = __imul__ = refuse


class Answers(unittest.TestCase):
    def test_each_answer_stands_behind_the_count_of_its_numbers(self):
        self.assertEqual(answers(LINE), TOLD)
        self.assertEqual(answers(ALL_CALLS), ALL_TOLD)

    def test_one_call_alone(self):
        self.assertEqual(answers([0, 1, 0, 0]), [1, 0])
        self.assertEqual(answers([1, 0, 3, 7, 0, 9]), [1, 0])
        self.assertEqual(answers([1, 0, 0]), [1, -1])
        self.assertEqual(answers([2, 0, 0]), [1, -2])
        self.assertEqual(answers([3, 1, 1, 5]), [1, -6])
        self.assertEqual(answers([3, 1, 0]), [1, -1])
        self.assertEqual(answers([4, 1]), [2, 101, 0])
        self.assertEqual(answers([5, 1]), [1, 0])
        self.assertEqual(answers([6, 1]), [1, 0])
        self.assertEqual(answers([7]), [1, 0])
        self.assertEqual(answers([8, 1]), [3, 101, 0, 0])
        self.assertEqual(answers([9, 1, 0, 1, 5]), [1, -6])
        self.assertEqual(answers([9, 1, 0, 0]), [1, -1])
        self.assertEqual(answers([9, 1, 0, 2, 9, 9]), [1, -1])

    def test_refused_rows_are_gone_past_whole(self):
        for length in range(11):
            for table in (0, 2):
                row = [length] + [200] * length
                line = [1, table] + row + [3, table] + row + [9, table, 4] + row + [4, 0]
                refusal = -1 if table == 0 else -2
                self.assertEqual(answers(line), [1, refusal, 1, refusal, 1, refusal, 2, 101, 0])

    def test_at_the_beginning_points_have_one_value_and_there_are_no_rules(self):
        self.assertEqual(answers(gaps(0) + gaps(1) + decides(0, 5) + decides(1, 5) + decides(0, 5, 5)),
                         [2, 101, 0, 2, 101, 0, 1, -6, 1, -6, 1, -1])
        self.assertEqual(answers(drop(0, 0) + drop(1, 0) + rule(0, 1, 0, 0) + rule(1, 1, 0, 0)),
                         [1, -2, 1, -2, 1, 0, 1, 0])

    def test_at_the_beginning_both_tables_have_way_0(self):
        for table in (0, 1):
            line = rule(table, 4, 0, 9) + rule(table, 7, 0, 9) + rule(table, 1, 0, 9) + decides(table, 5)
            self.assertEqual(answers(line), [1, 0, 1, 1, 1, 2, 4, 4, 0, 1, 2])

    def test_sixty_calls(self):
        self.assertEqual(answers(decides(0, 5) * 60), [1, -6] * 60)

    def test_sixty_calls_with_twelve_of_all_points(self):
        line = begins(3, 1, 3)
        for k in range(6):
            line += rule(0, k, *[k, 100 - k] * 3) + rule(1, k, *[10 + k, 90 - k] * 3)
        line += (gaps(0) + overlaps(0) + idle(0) + same() + counts(0) + nearest(0, 0, 9, 50, 50)) * 2
        line += decides(0, 0, 50, 50) * 35
        told = parted(answers(line))
        self.assertEqual(len(told), 60)
        pairs = [number for low in range(6) for high in range(low + 1, 6) for number in (low, high)]
        # All of table 0 but the outermost layer is a clash; at that layer it says 0, and table 1 nothing.
        asked = [[0], [15] + pairs, [4, 2, 3, 4, 5], [1030301, 0, 0, 0], [0, 99 ** 3, 101 ** 3 - 99 ** 3], [9, 0, 50, 50]]
        self.assertEqual(told[13:25], asked * 2)
        self.assertEqual(told[25:], [[0, 0]] * 35)

    def test_the_longest_line_there_is(self):
        # Rows of 10 in all of 60 calls, 12 of which are nearest, make 792 numbers.
        row = [10] + [GREATEST] * 10
        line = ([1, 0] + row + [3, 1] + row) * 24 + ([9, 0, GREATEST] + row) * 12
        self.assertEqual(len(line), 792)
        self.assertEqual(answers(line), [1, -1] * 60)

    def test_nine_hundred_numbers(self):
        row = [10] + [GREATEST] * 10
        line = ([1, 0] + row + [3, 2] + row) * 34 + [1, 0] + row + [3, 0, 0]
        self.assertEqual(len(line), 900)
        self.assertEqual(answers(line), [1, -1, 1, -2] * 34 + [1, -1] * 2)

    def test_what_is_handed_in_is_the_same_after(self):
        for handed_in in (LINE, ALL_CALLS):
            line = list(handed_in)
            answers(line)
            self.assertEqual(line, handed_in)

    def test_what_is_handed_in_is_not_changed_for_a_while_either(self):
        self.assertEqual(answers(Untouchable(LINE)), TOLD)
        self.assertEqual(answers(Untouchable(ALL_CALLS)), ALL_TOLD)

    def test_nothing_is_kept_from_one_time_to_the_next(self):
        for line, told in ((list(LINE), TOLD), (list(ALL_CALLS), ALL_TOLD)):
            self.assertEqual(answers(line), told)
            self.assertEqual(answers(line), told)
        answers(begins(3, 3, 3) + rule(0, 1, 0, 100, 0, 100, 0, 100))
        self.assertEqual(answers(gaps(0)), [2, 101, 0])

    def test_what_is_given_back_is_a_new_list_of_whole_numbers(self):
        told = answers(ALL_CALLS)
        self.assertIs(type(told), list)
        self.assertEqual({type(number) for number in told}, {int})
        told.clear()
        self.assertEqual(answers(ALL_CALLS), ALL_TOLD)

    def test_nothing_is_printed(self):
        out = io.StringIO()
        with contextlib.redirect_stdout(out), contextlib.redirect_stderr(out):
            answers(LINE)
            answers(ALL_CALLS)
        self.assertEqual(out.getvalue(), "")


if __name__ == "__main__":
    unittest.main()
