"""The interface: lists of calls in, lists of answers out."""

import builtins
import contextlib
import io
import unittest
from unittest import mock

from pathtimes.reading import read_calls
from pathtimes.states import StateSystem
from pathtimes.system import answers, perform

LOWEST = -2147483648
HIGHEST = 2147483647

# A list of calls, and the number that each of them answers.
EXAMPLES = (
    ([0, 1], [0]),
    ([0, 64], [0]),
    ([0, 0], [-1]),
    ([0, 65], [-1]),
    ([0, -1], [-1]),
    ([0, LOWEST], [-1]),
    ([0, HIGHEST], [-1]),
    ([1, 0, 0], [0]),
    ([1, 0, 65535], [0]),
    ([1, 0, 65536], [-1]),
    ([1, 0, 4294967295], [-1]),
    ([1, 1, 0], [-1]),
    ([1, -1, 0], [-1]),
    ([1, LOWEST, 0], [-1]),
    ([1, HIGHEST, 0], [-1]),
    ([2, 0, 0, 1], [0]),
    ([2, 0, 0, 0], [0]),
    ([2, 0, 1, 1], [-1]),
    ([2, 1, 0, 1], [-1]),
    ([2, 0, -1, 0], [-1]),
    ([2, LOWEST, 0, LOWEST], [-1]),
    ([2, 0, HIGHEST, HIGHEST], [-1]),
    ([3, 0, 1], [0]),
    ([3, 0, LOWEST], [0]),
    ([3, 0, 0], [0]),
    ([3, 1, 1], [-1]),
    ([3, -1, 0], [-1]),
    ([3, LOWEST, 1], [-1]),
    ([3, HIGHEST, 1], [-1]),
    ([0, 64, 1, 63, 1, 1, 64, 1, 2, 63, 63, 1, 2, 63, 64, 1, 3, 63, 1, 3, 64, 1], [0, 0, -1, 0, -1, 0, -1]),
    ([0, 3, 0, 65, 1, 2, 1, 1, 3, 1, 0, 2, 1, 2, 1], [0, -1, 0, -1, 0, -1]),
    ([2, 0, 0, 7, 2, 0, 0, 7, 2, 0, 0, 0, 2, 0, 0, 0], [0, 0, 0, 0]),
    ([3, 0, 7, 3, 0, 7, 3, 0, 0, 3, 0, 0], [0, 0, 0, 0]),
)


def counted(numbers):
    """The numbers, each with its count of 1 ahead of it."""
    told = []
    for number in numbers:
        told.extend([1, number])
    return told


class Untouchable(list):
    """A list that does not let itself be changed, not for a while either."""

    def refuse(self, *given, **named):
        raise AssertionError("what was handed in is changed")

    append = extend = insert = pop = remove = clear = sort = reverse = refuse
    __setitem__ = __delitem__ = __iadd__ = __imul__ = refuse


class Answers(unittest.TestCase):
    def test_examples(self):
        for calls, numbers in EXAMPLES:
            with self.subTest(calls=calls):
                self.assertEqual(answers(calls), counted(numbers))

    def test_the_empty_list(self):
        self.assertEqual(answers([]), [])

    def test_answers_are_a_list_of_whole_numbers(self):
        for calls, numbers in EXAMPLES + (([], []),):
            told = answers(calls)
            self.assertIs(type(told), list)
            self.assertEqual({type(number) for number in told} - {int}, set())

    def test_400_calls_of_one_sort(self):
        for call in ([0, 64], [1, 0, 65535], [2, 0, 0, 1], [3, 0, -1]):
            self.assertEqual(answers(call * 400), [1, 0] * 400)

    def test_400_calls_of_every_sort(self):
        calls = [0, 64, 1, 63, 9, 2, 63, 0, 1, 3, 63, 1, 0, 1, 1, 63, 9, 2, 63, 0, 1, 3, 63, 1] * 50
        self.assertEqual(answers(calls), counted([0, 0, 0, 0, 0, -1, -1, -1] * 50))

    def test_what_is_handed_in_is_not_changed(self):
        for calls, numbers in EXAMPLES:
            handed = Untouchable(calls)
            self.assertEqual(answers(handed), counted(numbers))
            self.assertEqual(handed, calls)

    def test_nothing_is_kept_from_one_time_to_the_next(self):
        calls = [1, 63, 1, 2, 63, 0, 1, 3, 63, 1, 0, 64, 1, 63, 1, 2, 63, 0, 1, 3, 63, 1]
        expected = counted([-1, -1, -1, 0, 0, 0, 0])
        self.assertEqual(answers(calls), expected)
        self.assertEqual(answers(calls), expected)

    def test_an_answer_that_is_changed_afterwards_does_not_show_later(self):
        told = answers([0, 2])
        told.append(9)
        self.assertEqual(answers([0, 2]), [1, 0])

    def test_it_prints_reads_and_imports_nothing(self):
        out = io.StringIO()
        never = mock.Mock(side_effect=AssertionError("not allowed"))
        with contextlib.redirect_stdout(out), contextlib.redirect_stderr(out):
            with mock.patch.object(builtins, "open", never), mock.patch.object(builtins, "input", never):
                with mock.patch.object(builtins, "__import__", never):
                    told = [answers(calls) for calls, numbers in EXAMPLES]
        self.assertEqual(told, [counted(numbers) for calls, numbers in EXAMPLES])
        self.assertEqual(out.getvalue(), "")


class Perform(unittest.TestCase):
    def test_each_number_goes_where_it_belongs(self):
        system = StateSystem()
        self.assertEqual(perform(system, 0, [5]), 0)
        self.assertEqual(perform(system, 1, [4, 3]), 0)
        self.assertEqual(perform(system, 2, [3, 1, 9]), 0)
        self.assertEqual(perform(system, 3, [2, -1]), 0)
        self.assertEqual((system.size, system.marks), (5, [0, 0, 0, 0, 3]))
        self.assertEqual((system.arcs, system.starts), ([0, 0, 0, 2, 0], 4))

    def test_calls_that_are_not_built_give_no_answer(self):
        for calls in ([4, 0], [5, 0, 0, 0], [6, 0, 0, 0], [7, 0, 0]):
            with self.subTest(calls=calls), self.assertRaises(NotImplementedError):
                answers(calls)


class Layout(unittest.TestCase):
    CALLS = (
        (0, [5], []),
        (1, [4, 4294967295], []),
        (2, [LOWEST, HIGHEST, 0], []),
        (3, [1, -1], []),
        (4, [], [[97]]),
        (5, [-7], [[0, 1, 255], [88, 97]]),
        (6, [HIGHEST], [[4294967295, 0], [97, 32, 98]]),
        (7, [], [[97], [98, 99]]),
        (4, [], [[]]),
        (5, [0], [[], []]),
        (6, [0], [[], [1]]),
        (7, [], [[1], []]),
        (5, [2], [[3] * 5000, [32] * 1100]),
    )

    def written(self, calls):
        whole = []
        for number, numbers, rows in calls:
            whole.extend([number] + numbers)
            for row in rows:
                whole.extend([len(row)] + row)
        return whole

    def test_each_call_by_itself(self):
        for call in self.CALLS:
            self.assertEqual(read_calls(self.written([call])), [call])

    def test_each_call_behind_each(self):
        for first in self.CALLS:
            for second in self.CALLS:
                self.assertEqual(read_calls(self.written([first, second])), [first, second])

    def test_all_in_one_list(self):
        calls = list(self.CALLS + self.CALLS[::-1])
        self.assertEqual(read_calls(Untouchable(self.written(calls))), calls)


if __name__ == "__main__":
    unittest.main()
