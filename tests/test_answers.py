"""The interface: lists of calls in, lists of answers out."""

import builtins
import contextlib
import io
import unittest
from unittest import mock

from helper import (
    HIGHEST, LOWEST, Untouchable, check_call, counted, path_call, same_call, system_calls, text_bytes, word_call
)
from pathtimes.reading import read_calls
from pathtimes.states import StateSystem
from pathtimes.system import answers, ask, build

# A list of calls, and the number that each of them answers.
EXAMPLES = (
    ([0, 1], [0]),
    ([0, 64], [0]),
    ([0, 0], [-1]),
    ([0, 65], [-1]),
    ([0, -1], [-1]),
    ([0, LOWEST], [-1]),
    ([0, HIGHEST], [-1]),
    ([1, 0, 0], [0]),
    ([1, 0, 65535], [0]),
    ([1, 0, 65536], [-1]),
    ([1, 0, 4294967295], [-1]),
    ([1, 1, 0], [-1]),
    ([1, -1, 0], [-1]),
    ([1, LOWEST, 0], [-1]),
    ([1, HIGHEST, 0], [-1]),
    ([2, 0, 0, 1], [0]),
    ([2, 0, 0, 0], [0]),
    ([2, 0, 1, 1], [-1]),
    ([2, 1, 0, 1], [-1]),
    ([2, 0, -1, 0], [-1]),
    ([2, LOWEST, 0, LOWEST], [-1]),
    ([2, 0, HIGHEST, HIGHEST], [-1]),
    ([3, 0, 1], [0]),
    ([3, 0, LOWEST], [0]),
    ([3, 0, 0], [0]),
    ([3, 1, 1], [-1]),
    ([3, -1, 0], [-1]),
    ([3, LOWEST, 1], [-1]),
    ([3, HIGHEST, 1], [-1]),
    ([0, 64, 1, 63, 1, 1, 64, 1, 2, 63, 63, 1, 2, 63, 64, 1, 3, 63, 1, 3, 64, 1], [0, 0, -1, 0, -1, 0, -1]),
    ([0, 3, 0, 65, 1, 2, 1, 1, 3, 1, 0, 2, 1, 2, 1], [0, -1, 0, -1, 0, -1]),
    ([2, 0, 0, 7, 2, 0, 0, 7, 2, 0, 0, 0, 2, 0, 0, 0], [0, 0, 0, 0]),
    ([3, 0, 7, 3, 0, 7, 3, 0, 0, 3, 0, 0], [0, 0, 0, 0]),
    ([4, 0], [-10]),
    ([4, 1, 48], [1]),
    ([4, 3, 97, 85, 41], [-12]),
    ([3, 0, 1, 2, 0, 0, 1, 4, 1, 48, 4, 1, 49, 4, 1, 97, 1, 0, 1, 4, 1, 97], [0, 0, 0, 1, 0, 0, 1]),
    ([5, 0, 0, 1, 97], [-2]),
    ([5, 0, 1, 0, 1, 97], [-4]),
    ([3, 0, 1, 2, 0, 0, 1, 5, 0, 1, 0, 1, 97, 5, 0, 2, 0, 0, 2, 33, 97], [0, 0, 0, 1]),
    ([6, 0, 1, 1, 1, 97], [1]),
    ([6, 0, 1, 4294967294, 1, 97], [0]),
    ([6, LOWEST, 1, 1, 1, 97, 6, HIGHEST, 1, 1, 1, 97], [-2, -2]),
    ([7, 1, 97, 1, 98], [0]),
    ([7, 1, 97, 3, 32, 97, 32], [1]),
    ([7, 0, 0], [-10]),
    ([7, 1, 97, 0], [-2000]),
    ([7, 7, 88, 88, 88, 88, 88, 88, 97, 2, 88, 97], [-3]),
)
MOST_CALLS = 400


class Answers(unittest.TestCase):
    def test_examples(self):
        for calls, numbers in EXAMPLES:
            with self.subTest(calls=calls):
                self.assertEqual(answers(calls), counted(numbers))

    def test_the_empty_list(self):
        self.assertEqual(answers([]), [])

    def test_answers_are_a_list_of_whole_numbers(self):
        for calls, numbers in EXAMPLES + (([], []),):
            told = answers(calls)
            self.assertIs(type(told), list)
            self.assertEqual({type(number) for number in told} - {int}, set())

    def test_400_calls_of_one_sort(self):
        for call in ([0, 64], [1, 0, 65535], [2, 0, 0, 1], [3, 0, -1], word_call(0, [1], "!a"), same_call("a", "b")):
            self.assertEqual(answers(call * MOST_CALLS), [1, 0] * MOST_CALLS)
        self.assertEqual(answers(check_call("0") * MOST_CALLS), [1, 1] * MOST_CALLS)
        self.assertEqual(answers(path_call(0, [0], "a") * MOST_CALLS), [1, -4] * MOST_CALLS)

    def test_400_calls_of_every_sort(self):
        calls = [0, 64, 1, 63, 9, 2, 63, 0, 1, 3, 63, 1, 0, 1, 1, 63, 9, 2, 63, 0, 1, 3, 63, 1] * 50
        self.assertEqual(answers(calls), counted([0, 0, 0, 0, 0, -1, -1, -1] * 50))

    def test_calls_of_all_eight_sorts_behind_each_other(self):
        calls = system_calls([1, 2], [(0, 1), (1, 0)], [0])
        calls += check_call("GFb") + path_call(0, [0, 1], "XXa") + word_call(1, [1, 2], "XXa") + same_call("Fa", "1Ua")
        calls += [1, 1, 0] + check_call("GFb") + path_call(0, [0, 1], "Fb") + [0, 1] + check_call("0")
        expected = counted([0, 0, 0, 0, 0, 0, 1, 1, 0, 1, 0, 0, 0, 0, 1])
        self.assertEqual(answers(calls), expected)

    def test_what_is_asked_changes_nothing(self):
        asked = check_call("GFb") + path_call(0, [0, 1], "XXa") + word_call(1, [1, 2], "XXa") + same_call("Fa", "Ga")
        asked += check_call("a&") + path_call(0, [1], "a") + word_call(2, [1, 2], "a") + same_call("a", "b?")
        calls = system_calls([1, 2], [(0, 1), (1, 0)], [0])
        expected = counted([0, 0, 0, 0, 0, 0] + [1, 1, 0, 0, -12, -4, -2, -2001] * 20)
        self.assertEqual(answers(calls + asked * 20), expected)

    def test_the_same_list_twice(self):
        calls = system_calls([1, 2, 3], [(0, 1), (1, 0), (1, 2), (2, 2)], [0, 1])
        for text in ("GFa", "F(a&b)", "aUb", "X(a|", "FG(a&b)|GF!a"):
            calls += check_call(text) + path_call(2, [0, 1, 2], text) + word_call(1, [2, 1], text) + same_call(text, "a")
        first = answers(calls)
        other = answers(same_call("Fa", "Fb") + [0, 3, 3, 1, 1] + check_call("GFa"))
        self.assertEqual(other, counted([0, 0, 0, 1]))
        self.assertEqual(answers(list(calls)), first)
        self.assertEqual(answers(calls), first)

    def test_what_is_handed_in_is_not_changed(self):
        for calls, numbers in EXAMPLES:
            handed = Untouchable(calls)
            self.assertEqual(answers(handed), counted(numbers))
            self.assertEqual(handed, calls)

    def test_nothing_is_kept_from_one_time_to_the_next(self):
        calls = [1, 63, 1, 2, 63, 0, 1, 3, 63, 1, 0, 64, 1, 63, 1, 2, 63, 0, 1, 3, 63, 1]
        expected = counted([-1, -1, -1, 0, 0, 0, 0])
        self.assertEqual(answers(calls), expected)
        self.assertEqual(answers(calls), expected)

    def test_an_answer_that_is_changed_afterwards_does_not_show_later(self):
        told = answers([0, 2])
        told.append(9)
        self.assertEqual(answers([0, 2]), [1, 0])

    def test_it_prints_reads_and_imports_nothing(self):
        out = io.StringIO()
        never = mock.Mock(side_effect=AssertionError("not allowed"))
        with contextlib.redirect_stdout(out), contextlib.redirect_stderr(out):
            with mock.patch.object(builtins, "open", never), mock.patch.object(builtins, "input", never):
                with mock.patch.object(builtins, "__import__", never):
                    told = [answers(calls) for calls, numbers in EXAMPLES]
        self.assertEqual(told, [counted(numbers) for calls, numbers in EXAMPLES])
        self.assertEqual(out.getvalue(), "")


class Dispatch(unittest.TestCase):
    def test_each_number_goes_where_it_belongs(self):
        system = StateSystem()
        self.assertEqual(build(system, 0, [5]), 0)
        self.assertEqual(build(system, 1, [4, 3]), 0)
        self.assertEqual(build(system, 2, [3, 1, 9]), 0)
        self.assertEqual(build(system, 3, [2, -1]), 0)
        self.assertEqual((system.size, system.marks), (5, [0, 0, 0, 0, 3]))
        self.assertEqual((system.arcs, system.starts), ([0, 0, 0, 2, 0], 4))

    def test_each_question_goes_where_it_belongs(self):
        system = StateSystem()
        system.mark(0, 1)
        system.arc(0, 0, 1)
        system.start(0, 1)
        self.assertEqual(ask(system, 4, [], [text_bytes("!a")]), 0)
        self.assertEqual(ask(system, 5, [0], [[0], text_bytes("a")]), 1)
        self.assertEqual(ask(system, 6, [0], [[2], text_bytes("a")]), 0)
        self.assertEqual(ask(system, 7, [], [text_bytes("a"), text_bytes("a")]), 1)


class Layout(unittest.TestCase):
    CALLS = (
        (0, [5], []),
        (1, [4, 4294967295], []),
        (2, [LOWEST, HIGHEST, 0], []),
        (3, [1, -1], []),
        (4, [], [[97]]),
        (5, [-7], [[0, 1, 255], [88, 97]]),
        (6, [HIGHEST], [[4294967295, 0], [97, 32, 98]]),
        (7, [], [[97], [98, 99]]),
        (4, [], [[]]),
        (5, [0], [[], []]),
        (6, [0], [[], [1]]),
        (7, [], [[1], []]),
        (5, [2], [[3] * 5000, [32] * 1100]),
    )

    def written(self, calls):
        whole = []
        for number, numbers, rows in calls:
            whole.extend([number] + numbers)
            for row in rows:
                whole.extend([len(row)] + row)
        return whole

    def test_each_call_by_itself(self):
        for call in self.CALLS:
            self.assertEqual(read_calls(self.written([call])), [call])

    def test_each_call_behind_each(self):
        for first in self.CALLS:
            for second in self.CALLS:
                self.assertEqual(read_calls(self.written([first, second])), [first, second])

    def test_all_in_one_list(self):
        calls = list(self.CALLS + self.CALLS[::-1])
        self.assertEqual(read_calls(Untouchable(self.written(calls))), calls)


if __name__ == "__main__":
    unittest.main()
