"""Formulas nested as deep as 1024 bytes allow, in each of the four calls."""

import sys
import unittest

from helper import check_of, path_of, same_of, system_calls, word_of

# One path: a at its first moment, b at all later ones.
SYSTEM = system_calls([1, 2], [(0, 1), (1, 1)], [0])
LONGEST = 1024


def nested(front, middle, back):
    """The middle within as many fronts and backs as a text may hold."""
    times = (LONGEST - len(middle)) // len(front + back)
    return front * times + middle + back * times


# Deep texts, and whether each is true of the row: a at first, then b for ever.
DEEP = (
    (nested("(", "a", ")"), 1),
    (nested("(", "b", ")"), 0),
    ("!" * 1023 + "a", 0),
    ("!" * 1022 + "a", 1),
    (nested("!(", "a", ")"), 0),
    (nested("(!", "b", ")"), 1),
    (nested("(!!", "a", ")"), 1),
    (nested("!(!", "a", ")"), 1),
    (nested("(a&", "a", ")"), 1),
    (nested("(a&", "b", ")"), 0),
    (nested("(", "b", "|b)"), 0),
    (nested("(b|", "a", ")"), 1),
    (nested("(a->", "b", ")"), 0),
    (nested("(", "a", "<->a)"), 1),
    (nested("!(b|", "a", ")"), 1),
    ("a->" * 341 + "a", 1),
    ("a->" * 341 + "b", 0),
    ("a<->" * 255 + "a", 1),
    ("a<->" * 255 + "b", 0),
    ("b|" * 511 + "a", 1),
    ("a&" * 511 + "b", 0),
    ("XFGXFG" + nested("(", "b", ")")[3:-3], 1),
    ("G" + nested("(!", "b", ")")[2:-1], 0),
    (nested("(", "XFGXFGb", ")"), 1),
    (nested("(", "!" * 300 + "aU(bUGb)", ")"), 1),
    ("X(" * 6 + nested("(!!", "b", ")")[21:-7] + ")" * 6, 1),
    ("(" * 200 + "X" + "(" * 200 + "GF" + "!" * 100 + "b" + ")" * 400, 1),
)


class Deep(unittest.TestCase):
    def setUp(self):
        # Far below what Python allows: whatever calls itself once for each bracket fails here.
        self.allowed = sys.getrecursionlimit()
        depth = 0
        frame = sys._getframe()
        while frame is not None:
            depth += 1
            frame = frame.f_back
        sys.setrecursionlimit(depth + 60)

    def tearDown(self):
        sys.setrecursionlimit(self.allowed)

    def test_deep_texts(self):
        for text, expected in DEEP:
            with self.subTest(text=text):
                self.assertIn(len(text), range(LONGEST - 224, LONGEST + 1))
                self.assertEqual(check_of(text, SYSTEM), expected)
                self.assertEqual(path_of(SYSTEM, 1, [0, 1], text), expected)
                self.assertEqual(word_of(1, [1, 2], text), expected)

    def test_deep_texts_in_same(self):
        self.assertEqual(same_of(nested("(", "a", ")"), "!" * 1022 + "a"), 1)
        self.assertEqual(same_of(nested("(", "a", ")"), "!" * 1023 + "a"), 0)
        self.assertEqual(same_of(nested("(!!", "Ga", ")"), "!" * 1021 + "F!a"), 1)
        self.assertEqual(same_of(nested("(", "aUb", ")"), nested("!(!", "(aWb&Fb)", ")")), 1)
        self.assertEqual(same_of(nested("(", "aUb", ")"), nested("!(!", "(aWb)", ")")), 0)
        self.assertEqual(same_of(nested("(a&", "a", ")"), nested("(", "a", "|a)")), 1)
        self.assertEqual(same_of("a->" * 341 + "b", "!a|b"), 1)

    def test_deep_texts_that_are_wrong(self):
        for text, place in (("(" * 1024, 1024), ("!" * 1024, 1024), ("(!" * 512, 1024), ("(" * 1023 + ")", 1023),
                            ("(" * 512 + "a" + ")" * 511, 1024), ("(" * 511 + "a" + ")" * 512, 1023),
                            ("(a|" * 341, 1023), ("(!(" * 300 + "a" + ")" * 100, 1001)):
            with self.subTest(text=text[:20]):
                self.assertEqual(check_of(text, SYSTEM), -10 - place)
                self.assertEqual(path_of(SYSTEM, 1, [0, 1], text), -10 - place)
                self.assertEqual(word_of(1, [1, 2], text), -10 - place)
                self.assertEqual(same_of(text, "a"), -10 - place)
                self.assertEqual(same_of("a", text), -2000 - place)

    def test_long_ways(self):
        # A way through all knots of a system is as long as they are many.
        arcs = [(state, (state + 1) % 64) for state in range(64)]
        ring = system_calls([state * 7 % 16 for state in range(64)], arcs, [0])
        self.assertEqual(check_of("!(Fp&(1|Xa|Xb|Xc|Xd|XXa))", ring), -3)
        self.assertEqual(check_of("!(Fp&(1|Xa|Xb|Xc|Xd|Xe))", ring), 1)
        self.assertEqual(check_of("G(aUb|bUc|cUd|dUa|1Ua)", ring), 1)
        self.assertEqual(word_of(4095, [1] * 4095 + [2], "aUGb"), 1)


if __name__ == "__main__":
    unittest.main()
