"""The interface: how calls and answers are laid in their lists, and that nothing is changed or kept."""

import io
import unittest
from contextlib import redirect_stderr, redirect_stdout

import netflows.desk
from netflows.desk import answers

# All seven calls, each answered and refused, between changes of the net.
LINE = [
    6, 0, 1, 0,
    1, 0, 1, 5, 2,
    3, 0, 1,
    4, 0, 1,
    5, 0, 1, 3,
    6, 0, 1, 1, 4,
    6, 0, 1, 1, 6,
    7, 0, 1, 1, 4, 2, 0, 2,
    7, 0, 1, 1, 4, 2, 0, 3,
    1, 0, 1, 2, -1,
    5, 0, 1, 3,
    5, 0, 1, 8,
    6, 0, 1, 2, 1, 2,
    7, 0, 1, 2, 1, 2, 2, 0, 2,
    1, 0, 0, 1, 1,
    3, 7, 7,
    4, 64, 1,
    5, 0, 1, -1,
    6, -1, 1, 2, 1, 2,
    7, 3, 3, 2, 1, 2, 2, 0, 2,
    2,
    5, 0, 1, 3,
    7, 0, 1, 0, 0,
    2,
    2,
    7, 0, 1, 0, 0,
]
TOLD = [
    3, 1, 0, 0,
    1, 0,
    1, 5,
    2, 0, 1,
    2, 0, 6,
    3, 1, 4, 8,
    1, 0,
    1, 1,
    1, 0,
    1, 1,
    2, 0, 0,
    1, -2,
    3, 1, 3, 0,
    1, 1,
    1, -1,
    1, -1,
    1, -1,
    1, -1,
    1, -1,
    1, -1,
    1, 1,
    2, 0, 6,
    1, 0,
    1, 0,
    1, -1,
    1, 1,
]


def refuse_change(self, *numbers):
    raise AssertionError("the list handed in is changed")


class Watched(list):
    """A list that does not let itself be changed, not for a while either."""


for name in (
    "append", "clear", "extend", "insert", "pop", "remove", "reverse", "sort",
    "__setitem__", "__delitem__", "__iadd__", "__imul__",
):
    setattr(Watched, name, refuse_change)


class DeskTest(unittest.TestCase):
    def test_answers_stand_behind_their_counts(self):
        self.assertEqual(answers(list(LINE)), TOLD)

    def test_each_call_by_itself(self):
        self.assertEqual(answers([1, 0, 1, 5, 2]), [1, 0])
        self.assertEqual(answers([1, 0, 0, 5, 2]), [1, -1])
        self.assertEqual(answers([2]), [1, -1])
        self.assertEqual(answers([3, 0, 1]), [1, 0])
        self.assertEqual(answers([3, 0, 0]), [1, -1])
        self.assertEqual(answers([4, 0, 1]), [2, 0, 1])
        self.assertEqual(answers([4, 0, 0]), [1, -1])
        self.assertEqual(answers([5, 0, 1, 0]), [2, 0, 0])
        self.assertEqual(answers([5, 0, 1, 1]), [1, -2])
        self.assertEqual(answers([5, 0, 0, 1]), [1, -1])
        self.assertEqual(answers([6, 0, 1, 0]), [3, 1, 0, 0])
        self.assertEqual(answers([6, 0, 1, 1, 0]), [1, 0])
        self.assertEqual(answers([6, 0, 0, 0]), [1, -1])
        self.assertEqual(answers([7, 0, 1, 0, 0]), [1, 1])
        self.assertEqual(answers([7, 0, 1, 1, 0, 0]), [1, 0])
        self.assertEqual(answers([7, 0, 0, 0, 0]), [1, -1])

    def test_numbers_of_a_call_are_not_taken_for_calls(self):
        self.assertEqual(answers([1, 2, 3, 4, 1, 3, 2, 3, 4, 3, 2]), [1, 0, 1, 4, 2, 0, 8])

    def test_rows_stand_behind_their_counts(self):
        line = [1, 2, 3, 4, 5, 6, 2, 3, 1, 2, 6, 2, 3, 2, 3, 2, 7, 2, 3, 1, 4, 4, 0, 0, 0, 5, 7, 2, 3, 1, 4, 0, 3, 2, 3]
        self.assertEqual(answers(line), [1, 0, 3, 1, 2, 10, 1, 0, 1, 1, 1, 0, 1, 4])

    def test_cheapest_is_s_t_value(self):
        line = [1, 10, 20, 30, 40, 5, 10, 20, 30, 5, 10, 20, 31, 5, 20, 10, 0, 5, 20, 10, 1]
        self.assertEqual(answers(line), [1, 0, 2, 0, 1200, 1, -2, 2, 0, 0, 1, -2])

    def test_arc_is_origin_goal_capacity_cost(self):
        self.assertEqual(answers([1, 10, 20, 30, 40, 3, 10, 20, 3, 20, 10]), [1, 0, 1, 30, 1, 0])
        self.assertEqual(answers([1, 0, 1, 1000001, 0]), [1, 0])
        self.assertEqual(answers([1, 0, 1, 0, 1000001]), [1, -1])

    def test_sixty_calls(self):
        line = [1, 0, 1, 7, 0] * 12 + [3, 0, 1] * 24 + [4, 0, 1] * 24
        told = [number for count in range(12) for number in (1, count)] + [1, 84] * 24 + [2, 0, 1] * 24
        self.assertEqual(answers(line), told)

    def test_the_longest_lines(self):
        arcs = [1, 0, 1, 7, 1] * 12
        told = [number for count in range(12) for number in (1, count)]
        flow = [6, 0, 1, 40] + [7] * 40
        proves = [7, 0, 1, 40] + [7] * 40 + [64] + [0] * 64
        self.assertEqual(answers(arcs + flow * 24 + proves * 24), told + [1, 0] * 48)
        self.assertEqual(answers(proves * 60), [1, 0] * 60)
        self.assertEqual(answers(arcs + [5, 0, 1, 84] * 48), told + [2, 0, 84] * 48)

    def test_whole_numbers_in_a_list(self):
        told = answers(list(LINE))
        self.assertIs(type(told), list)
        self.assertEqual({type(number) for number in told}, {int})

    def test_what_is_handed_in_is_not_changed(self):
        line = list(LINE)
        answers(line)
        self.assertEqual(line, LINE)
        self.assertEqual(answers(Watched(LINE)), TOLD)

    def test_what_is_given_back_is_a_list_of_its_own(self):
        line = list(LINE)
        first = answers(line)
        self.assertIsNot(first, line)
        first.append(99)
        self.assertEqual(answers(line), TOLD)

    def test_nothing_is_kept(self):
        self.assertEqual(answers([1, 0, 1, 5, 0, 1, 0, 1, 6, 0]), [1, 0, 1, 1])
        self.assertEqual(answers([3, 0, 1, 4, 0, 1, 2, 1, 0, 1, 5, 0]), [1, 0, 2, 0, 1, 1, -1, 1, 0])
        for call, told in [
            ([5, 0, 1, 1], [1, -2]), ([6, 0, 1, 0], [3, 1, 0, 0]), ([6, 0, 1, 1, 1], [1, 0]),
            ([7, 0, 1, 0, 0], [1, 1]), ([7, 0, 1, 1, 1, 0], [1, 0]),
        ]:
            self.assertEqual(answers([1, 0, 1, 5, 0] + call)[:2], [1, 0])
            self.assertEqual(answers(call), told)
        self.assertEqual(answers(list(LINE)), answers(list(LINE)))

    def test_nothing_is_kept_after_a_failure(self):
        with self.assertRaises(Exception):
            answers([1, 0, 1, 5, 0, 99])
        self.assertEqual(answers([2]), [1, -1])

    def test_nothing_is_printed(self):
        printed = io.StringIO()
        with redirect_stdout(printed), redirect_stderr(printed):
            answers(list(LINE))
        self.assertEqual(printed.getvalue(), "")

    def test_the_function_lies_where_the_document_says(self):
        self.assertIs(netflows.desk.answers, answers)
