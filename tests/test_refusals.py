"""Point 7, and -2 and -4 of points 4 and 5: what is refused, and which refusal is told where several are due."""

import itertools
import unittest

from helper import (
    HIGHEST, LOWEST, check_of, last_answer, path_call, path_of, same_call, same_of, system_calls, text_bytes, word_call,
    word_of
)

ROUND = system_calls([1, 2], [(0, 1), (1, 0)], [0])


def text_with(long, wrong, many):
    """A text with these faults and no others."""
    text = "XFGaUbWc|Xd&X!e" if many else "Xa"
    text = text + ")" if wrong else text
    return " " * (1025 - len(text)) + text if long else text


class TooLong(unittest.TestCase):
    def test_at_the_edge(self):
        for length, expected in ((1023, 0), (1024, 0), (1025, -1), (1026, -1), (1100, -1)):
            text = "a" + " " * (length - 1)
            with self.subTest(length=length):
                self.assertEqual(word_of(0, [0], text), expected)
                self.assertEqual(path_of(ROUND, 0, [0, 1], "!" + text[:-1]), expected)
                self.assertEqual(check_of("!" + text[:-1], ROUND), expected)
                self.assertEqual(same_of(text, "b"), expected)
                self.assertEqual(same_of("b", text), expected)
                self.assertEqual(same_of(text, "b" + " " * 1023), expected)

    def test_both_of_same(self):
        self.assertEqual(same_of("a" + " " * 1024, "b" + " " * 1099), -1)

    def test_whatever_the_bytes_are(self):
        for byte in (0, 32, 40, 88, 97, 255):
            self.assertEqual(check_of([byte] * 1025), -1)
            self.assertEqual(same_of("a", [byte] * 1100), -1)
            self.assertEqual(same_of([byte] * 1100, "a"), -1)

    def test_only_the_second_is_so_long(self):
        self.assertEqual(same_of("?", "a" + " " * 1024), -1)
        self.assertEqual(same_of("", [255] * 1025), -1)


class TooManyTimes(unittest.TestCase):
    def test_six_and_seven_of_each(self):
        for sign in "XFG":
            self.assertIn(check_of(sign * 6 + "a", ROUND), (0, 1))
            self.assertEqual(check_of(sign * 7 + "a", ROUND), -3)
            self.assertEqual(word_of(0, [1], sign * 6 + "a"), 1)
            self.assertEqual(word_of(0, [1], sign * 7 + "a"), -3)
            self.assertEqual(path_of(ROUND, 0, [0, 1], sign * 7 + "a"), -3)
        for sign in "URW":
            self.assertIn(word_of(0, [1], sign.join("abcdefg")), (0, 1))
            self.assertEqual(word_of(0, [1], sign.join("abcdefgh")), -3)
            self.assertEqual(check_of(sign.join("abcdefgh"), ROUND), -3)

    def test_all_six_signs_count_together(self):
        self.assertIn(word_of(0, [1], "XFGaUbRcWd"), (0, 1))
        for more in ("X", "F", "G"):
            self.assertEqual(word_of(0, [1], more + "XFGaUbRcWd"), -3)
        for more in ("U", "R", "W"):
            self.assertEqual(word_of(0, [1], "XFGaUbRcWd" + more + "e"), -3)

    def test_those_that_say_the_same_count_each(self):
        self.assertEqual(word_of(0, [1], "&".join(["Fa"] * 6)), 1)
        self.assertEqual(word_of(0, [1], "&".join(["Fa"] * 7)), -3)
        self.assertEqual(check_of("|".join(["Xa"] * 7), ROUND), -3)
        self.assertEqual(same_of("Xa&Xa&Xa&Xa", "Xa&Xa&Xa"), -3)

    def test_other_signs_do_not_count(self):
        self.assertEqual(word_of(0, [1], "!!!!!!!!(((((((a&a|a->a<->a&1|0)))))))"), 1)

    def test_both_texts_of_same_together(self):
        for first in range(8):
            for second in range(8):
                expected = -3 if first + second > 6 else int(first == second)
                with self.subTest(first=first, second=second):
                    self.assertEqual(same_of("X" * first + "a", "X" * second + "a"), expected)

    def test_far_more(self):
        self.assertEqual(check_of("X" * 1023 + "a"), -3)
        self.assertEqual(same_of("G" * 1023 + "a", "F" * 1023 + "a"), -3)


class WrongNumbers(unittest.TestCase):
    def test_how_many_states(self):
        ring = system_calls([1], [(0, 0)], [0])
        for count, expected in ((0, -2), (1, 1), (2, 1), (4095, 1), (4096, 1), (4097, -2), (5000, -2)):
            with self.subTest(count=count):
                self.assertEqual(path_of(ring, 0, [0] * count, "Ga"), expected)

    def test_how_many_moments(self):
        for count, expected in ((0, -2), (1, 1), (2, 1), (4095, 1), (4096, 1), (4097, -2), (5000, -2)):
            with self.subTest(count=count):
                self.assertEqual(word_of(0, [1] * count, "Ga"), expected)

    def test_u(self):
        ring = system_calls([1], [(0, 0)], [0])
        for count in (1, 2, 3, 4096):
            for u in (LOWEST, -count - 1, -count, -2, -1, 0, 1, 2, count - 1, count, count + 1, 4095, 4096, HIGHEST):
                expected = 1 if 0 <= u < count else -2
                with self.subTest(count=count, u=u):
                    self.assertEqual(path_of(ring, u, [0] * count, "Ga"), expected)
                    self.assertEqual(word_of(u, [1] * count, "Ga"), expected)

    def test_no_moment_at_all_has_no_u(self):
        for u in (LOWEST, -1, 0, 1, HIGHEST):
            self.assertEqual(word_of(u, [], "1"), -2)
            self.assertEqual(path_of(ROUND, u, [], "1"), -2)


class Order(unittest.TestCase):
    """Every choice of faults: the one that the document tells first is answered."""

    def expected_of_text(self, text, long, wrong, many):
        if long:
            return -1
        if wrong:
            return -10 - text.index(")")
        return -3 if many else None

    def test_check(self):
        for faults in itertools.product((False, True), repeat=3):
            text = text_with(*faults)
            expected = self.expected_of_text(text, *faults)
            with self.subTest(faults=faults):
                self.assertEqual(check_of(text, ROUND), 0 if expected is None else expected)

    def test_path_and_word(self):
        for faults in itertools.product((False, True), repeat=3):
            text = text_with(*faults)
            expected = self.expected_of_text(text, *faults)
            for wrong_u, wrong_count, no_path in itertools.product((False, True), repeat=3):
                states = ([0, 0] if no_path else [0, 1]) * (2049 if wrong_count else 1)
                u = -1 if wrong_u else 0
                due = expected
                if due is None and (wrong_u or wrong_count):
                    due = -2
                of_word = 0 if due is None else due
                of_path = -4 if due is None and no_path else of_word
                with self.subTest(faults=faults, u=u, count=len(states), no_path=no_path):
                    self.assertEqual(path_of(ROUND, u, states, text), of_path)
                    self.assertEqual(word_of(u, [0] * len(states), text), of_word)

    def test_same(self):
        for of_a in itertools.product((False, True), repeat=3):
            for of_b in itertools.product((False, True), repeat=3):
                a, b = text_with(*of_a), text_with(*of_b)
                if of_a[0] or of_b[0]:
                    expected = -1
                elif of_a[1]:
                    expected = -10 - a.index(")")
                elif of_b[1]:
                    expected = -2000 - b.index(")")
                else:
                    expected = -3 if of_a[2] or of_b[2] else 1
                with self.subTest(of_a=of_a, of_b=of_b):
                    self.assertEqual(same_of(a, b), expected)

    def test_a_wrong_byte_comes_ahead_of_too_many_times_in_the_other_text(self):
        self.assertEqual(same_of("XXXXXXXa", "a)"), -2001)
        self.assertEqual(same_of("a)", "XXXXXXXa"), -11)
        self.assertEqual(same_of("XXXXXXX", "a)"), -17)


class NothingChanges(unittest.TestCase):
    def test_behind_each_refusal_the_system_is_as_before(self):
        refused = (
            [4] + [1025] + [97] * 1025, [4, 0], path_call(0, [], "a"), path_call(2, [0, 1], "a"),
            path_call(0, [1, 0], "a"), path_call(0, [0, 200], "a"), word_call(0, [], "a"), word_call(-1, [1], "a"),
            same_call("a", "?"), same_call("XXXa", "XXXXa"), [0, 65], [1, 2, 0], [1, 0, 65536], [2, 0, 2, 1], [3, 2, 1],
        )
        asked = text_bytes("a&!b&X(b&!a)&XX(a&!b)")
        for call in refused:
            with self.subTest(call=call[:4]):
                self.assertLess(last_answer(ROUND + call), 0)
                self.assertEqual(check_of(asked, ROUND + call), 1)
                self.assertEqual(path_of(ROUND + call, 0, [0, 1], asked), 1)
                self.assertEqual(path_of(ROUND + call, 0, [1, 0], asked), -4)


if __name__ == "__main__":
    unittest.main()
