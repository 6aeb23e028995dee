"""Points 4 and 5: path and word."""

import random
import unittest

from helper import (
    answers, check_of, path_call, path_of, random_tree, short_text, slow_word, system_calls, word_call, word_of
)

A, B, C = 1, 2, 4
# Rows of letters with u, and what is true of them.
ROWS = (
    (0, [A], ("a", "Ga", "Fa", "Xa", "XXXXXXa", "GFa", "FGa", "aUa", "aWb", "bRa", "1Ua", "aW0", "0Ra", "!Fb", "bUa"),
     ("b", "aUb", "aRb", "X!a", "G(a&b)", "Fb", "aU0", "F0", "bWb", "bR(a&b)")),
    (0, [A, B], ("a", "Xb", "XXa", "GFa", "GFb", "aUb", "aWb", "G(a<->Xb)", "G(a|b)", "(aUb)U(bUa)", "FXb", "G(aWb)", "G(aUXa)"),
     ("Ga", "FGa", "Fc", "G(aUXb)&Gb", "bRa", "X(a&b)", "GXa")),
    (1, [A, B], ("aUb", "XGb", "aUGb", "FGb", "!GFa", "aWGb", "XXXXb", "aRa", "X(XbRb)", "F(b&!a)", "G(b->Xb)"),
     ("GFa", "Ga", "Gb", "XFa", "bRa", "aUc", "XXa", "X(aRc)")),
    (2, [A, A, B, C], ("aUbUc", "(aUb)Uc", "aUb", "GFb", "GFc", "XXb", "XXXc", "XXXXb", "FG(b|c)", "F(c&Xb)", "cR(a|b|c)"),
     ("aUc", "(aUc)Ub&!a", "XbRb", "XXXXa", "GFa", "FGb", "G(c->Xa)", "XXXXXb")),
    (3, [B, A, C, 0], ("FG0|1", "FG!a", "FG(!a&!b&!c)", "XXXG!c", "bUaUc", "F(c&X!c)", "!GFc"),
     ("GFa", "FGc", "aUb&!b", "XXXFa", "G(a|b|c)")),
)


class Rows(unittest.TestCase):
    def test_rows(self):
        for u, moments, true, false in ROWS:
            for text in true:
                with self.subTest(u=u, moments=moments, text=text):
                    self.assertEqual(word_of(u, moments, text), 1)
                    self.assertEqual(word_of(u, moments, f"!({text})"), 0)
            for text in false:
                with self.subTest(u=u, moments=moments, text=text):
                    self.assertEqual(word_of(u, moments, text), 0)
                    self.assertEqual(word_of(u, moments, f"!({text})"), 1)

    def test_rows_as_paths(self):
        for u, moments, true, false in ROWS:
            count = len(moments)
            arcs = [(state, state + 1) for state in range(count - 1)] + [(count - 1, u)]
            system = system_calls(moments, arcs, [0])
            for expected, texts in ((1, true), (0, false)):
                for text in texts:
                    with self.subTest(u=u, moments=moments, text=text):
                        self.assertEqual(path_of(system, u, range(count), text), expected)
                        # It's the system's only path.
                        self.assertEqual(check_of(text, system), expected)


class Word(unittest.TestCase):
    def test_bits_from_16_on_do_not_matter(self):
        for high in (0, 65536, 2147483648, 4294901760):
            self.assertEqual(word_of(0, [high], "a|b|c|d|e|f|g|h|i|j|k|l|m|n|o|p"), 0)
            self.assertEqual(word_of(0, [high + 65535], "a&b&c&d&e&f&g&h&i&j&k&l&m&n&o&p"), 1)
            self.assertEqual(word_of(0, [high + 1, high + 32768], "a&Xp&!p&X!a"), 1)
            self.assertEqual(word_of(1, [high, 1], "!a&XGa"), 1)

    def test_each_letter(self):
        for bit, letter in enumerate("abcdefghijklmnop"):
            self.assertEqual(word_of(0, [1 << bit], letter), 1)
            self.assertEqual(word_of(0, [4294967295 ^ 1 << bit], letter), 0)

    def test_one_moment(self):
        for text, expected in (("Ga", 1), ("Xa", 1), ("Fb", 0), ("aUb", 0), ("aWb", 1), ("bRa", 1), ("aRb", 0)):
            self.assertEqual(word_of(0, [1], text), expected)

    def test_each_u(self):
        moments = [1, 0, 0, 2, 0]
        for u in range(5):
            self.assertEqual(word_of(u, moments, "GFa"), int(u == 0))
            self.assertEqual(word_of(u, moments, "GFb"), int(u <= 3))
            self.assertEqual(word_of(u, moments, "FG!b"), int(u == 4))
            self.assertEqual(word_of(u, moments, "XXXXXa"), int(u == 0))
            self.assertEqual(word_of(u, moments, "XXXXXb"), int(u == 3))

    def test_4096_moments(self):
        for place in (0, 1, 2047, 4094, 4095):
            moments = [1] * 4096
            moments[place] = 2
            for u in (0, 1, 4094, 4095):
                with self.subTest(place=place, u=u):
                    self.assertEqual(word_of(u, moments, "aUb"), 1)
                    self.assertEqual(word_of(u, moments, "Ga"), 0)
                    self.assertEqual(word_of(u, moments, "GFb"), int(place >= u))
                    self.assertEqual(word_of(u, moments, "FGa"), int(place < u))
                    self.assertEqual(word_of(u, moments, "FGb"), int(place == u == 4095))
                    self.assertEqual(word_of(u, moments, "X(aUb)"), int(place > 0 or u == 0))
        self.assertEqual(word_of(0, [1] * 4096, "GaUb|Fb"), 0)
        self.assertEqual(word_of(0, [1] * 4096, "aWb&bRa"), 1)

    def test_the_system_does_not_matter(self):
        system = system_calls([2, 2], [(0, 1)], [0])
        self.assertEqual(answers(system + word_call(0, [1], "Ga"))[-1], 1)

    def test_against_the_slow_way(self):
        source = random.Random(31)
        seen = []
        for turn in range(6000):
            tree = random_tree(source, source.randrange(1, 14), source.randrange(7), "abp")
            moments = [source.choice((0, 1, 2, 3, 0x8000, 0x8001, 0x18002, 0xFFFF0000))
                       for moment in range(source.randrange(1, 8))]
            u = source.randrange(len(moments))
            found = word_of(u, moments, short_text(tree))
            self.assertEqual(found, slow_word(u, moments, tree), (u, moments, short_text(tree)))
            seen.append(found)
        self.assertGreater(min(seen.count(0), seen.count(1)), 1500)

    def test_all_rows_of_three_moments(self):
        texts = ("aUb", "aRb", "aWb", "Fa", "Ga", "Xa", "FGa", "GFa", "(aUb)U(bUa)", "G(a->Fb)", "(aRb)W(bRa)", "GXa&Fb")
        trees = (
            ("U", ("a",), ("b",)), ("R", ("a",), ("b",)), ("W", ("a",), ("b",)), ("F", ("a",)), ("G", ("a",)),
            ("X", ("a",)), ("F", ("G", ("a",))), ("G", ("F", ("a",))),
            ("U", ("U", ("a",), ("b",)), ("U", ("b",), ("a",))), ("G", ("->", ("a",), ("F", ("b",)))),
            ("W", ("R", ("a",), ("b",)), ("R", ("b",), ("a",))), ("&", ("G", ("X", ("a",))), ("F", ("b",))),
        )
        for number in range(64):
            moments = [number & 3, number >> 2 & 3, number >> 4]
            for u in range(3):
                for text, tree in zip(texts, trees):
                    self.assertEqual(word_of(u, moments, text), slow_word(u, moments, tree), (u, moments, text))


class Path(unittest.TestCase):
    SYSTEM = system_calls([1, 2, 4, 0], [(0, 1), (1, 2), (2, 1), (2, 2), (3, 3), (3, 0)], [0, 3])

    def path(self, u, states, text="1"):
        return path_of(self.SYSTEM, u, states, text)

    def test_paths(self):
        for u, states in ((1, [0, 1, 2]), (2, [0, 1, 2]), (0, [3]), (2, [3, 0, 1, 2]), (1, [3, 3]), (0, [3, 3, 3]),
                          (4, [0, 1, 2, 1, 2]), (3, [0, 1, 2, 1, 2]), (1, [0, 1, 2, 2, 2])):
            with self.subTest(u=u, states=states):
                self.assertEqual(self.path(u, states), 1)
                self.assertEqual(self.path(u, states, "0"), 0)

    def test_a_first_state_that_is_no_start(self):
        self.assertEqual(self.path(0, [1, 2]), -4)
        self.assertEqual(self.path(0, [2]), -4)
        self.assertEqual(path_of(self.SYSTEM + [3, 1, 1], 0, [1, 2], "1"), 1)
        self.assertEqual(path_of(self.SYSTEM + [3, 0, 0], 1, [0, 1, 2], "1"), -4)
        self.assertEqual(path_of(self.SYSTEM + [3, 0, 0], 2, [3, 0, 1, 2], "1"), 1)

    def test_a_missing_arc_within(self):
        self.assertEqual(self.path(2, [0, 2, 2]), -4)
        self.assertEqual(self.path(1, [3, 1, 2]), -4)
        self.assertEqual(self.path(3, [0, 1, 1, 2]), -4)
        self.assertEqual(self.path(1, [0, 0, 1, 2]), -4)

    def test_a_missing_arc_to_where_the_row_goes_on(self):
        self.assertEqual(self.path(0, [0, 1, 2]), -4)
        self.assertEqual(self.path(0, [0]), -4)
        self.assertEqual(self.path(1, [0, 1]), -4)
        self.assertEqual(self.path(2, [3, 0, 1]), -4)
        # The arc leads to u, not to the first state or from u.
        self.assertEqual(self.path(0, [3, 0]), -4)
        self.assertEqual(self.path(0, [3, 3]), 1)

    def test_numbers_that_are_no_states(self):
        for state in (4, 5, 63, 64, 128, 255):
            with self.subTest(state=state):
                self.assertEqual(self.path(0, [state]), -4)
                self.assertEqual(self.path(2, [0, state, 2]), -4)
                self.assertEqual(self.path(2, [0, 1, state]), -4)
                self.assertEqual(self.path(0, [3, state]), -4)

    def test_no_path_in_a_system_without_anything(self):
        self.assertEqual(path_of([], 0, [0], "a"), -4)
        self.assertEqual(path_of([3, 0, 1], 0, [0], "a"), -4)
        self.assertEqual(path_of([2, 0, 0, 1], 0, [0], "a"), -4)
        self.assertEqual(path_of([2, 0, 0, 1, 3, 0, 1], 0, [0], "a"), 0)
        self.assertEqual(path_of([2, 0, 0, 1, 3, 0, 1, 1, 0, 1], 0, [0], "a"), 1)

    def test_64_states(self):
        arcs = [(state, (state + 1) % 64) for state in range(64)]
        system = system_calls([state for state in range(64)], arcs, [63])
        states = [63] + list(range(63))
        self.assertEqual(path_of(system, 0, states, "a&b&c&d&e&f&X!(a|b|c|d|e|f)"), 1)
        self.assertEqual(path_of(system, 1, states, "a"), -4)
        self.assertEqual(path_of(system, 0, states, "GF(a&b&c&d&e&f)"), 1)
        self.assertEqual(path_of(system, 0, states, "G(a<->X!a)"), 1)
        self.assertEqual(path_of(system, 0, states * 64, "G(a<->X!a)"), 1)

    def test_4096_states(self):
        system = system_calls([1, 2], [(0, 0), (0, 1), (1, 1)], [0])
        states = [0] * 4095 + [1]
        self.assertEqual(path_of(system, 4095, states, "aUGb"), 1)
        self.assertEqual(path_of(system, 4094, states, "aUGb"), -4)
        self.assertEqual(path_of(system, 0, [0] * 4096, "Ga"), 1)
        self.assertEqual(path_of(system, 4095, [0] * 4096, "Fb"), 0)
        for place in (1, 2048, 4095):
            broken = [0] * 4096
            broken[place] = 2
            self.assertEqual(path_of(system, 0, broken, "1"), -4)

    def test_the_marks_of_now(self):
        calls = self.SYSTEM + path_call(1, [0, 1, 2], "GFb") + [1, 1, 0] + path_call(1, [0, 1, 2], "GFb")
        calls += [1, 2, 2] + path_call(1, [0, 1, 2], "GFb") + [2, 0, 1, 0] + path_call(1, [0, 1, 2], "GFb")
        self.assertEqual(answers(calls)[-13::2], [1, 0, 0, 0, 1, 0, -4])

    def test_like_the_word_of_its_marks(self):
        source = random.Random(32)
        found_paths = 0
        for turn in range(1500):
            count = source.randrange(1, 5)
            marks = [source.randrange(4) for state in range(count)]
            arcs = [(a, b) for a in range(count) for b in range(count) if source.random() < 0.7]
            starts = [state for state in range(count) if source.random() < 0.7]
            states = [source.randrange(count) for place in range(source.randrange(1, 5))]
            u = source.randrange(len(states))
            tree = random_tree(source, source.randrange(1, 9), 6, "ab")
            steps = list(zip(states, states[1:] + [states[u]]))
            is_path = states[0] in starts and all(step in arcs for step in steps)
            expected = slow_word(u, [marks[state] for state in states], tree) if is_path else -4
            found = path_of(system_calls(marks, arcs, starts), u, states, short_text(tree))
            self.assertEqual(found, expected, (marks, arcs, starts, states, u, short_text(tree)))
            found_paths += is_path
        self.assertGreater(found_paths, 300)


if __name__ == "__main__":
    unittest.main()
