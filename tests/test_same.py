"""Point 6: same."""

import random
import unittest

from helper import (
    TIME_SIGNS, basic, claims_in, last_answer, random_tree, same_call, same_of, short_text, slow_same, slow_word,
    system_calls, word_of
)

ALIKE = (
    ("Fa", "1Ua"), ("Ga", "!F!a"), ("Ga", "aW0"), ("Fa", "!G!a"), ("aWb", "(aUb)|Ga"), ("aRb", "bW(a&b)"),
    ("aRb", "!(!aU!b)"), ("aUb", "!(!aR!b)"), ("aUb", "b|a&X(aUb)"), ("aWb", "b|a&X(aWb)"), ("aRb", "b&(a|X(aRb))"),
    ("Fa", "a|XFa"), ("Ga", "a&XGa"), ("FFa", "Fa"), ("GGa", "Ga"), ("GFGa", "FGa"), ("FGFa", "GFa"), ("XFa", "FXa"),
    ("XGa", "GXa"), ("X(aUb)", "XaUXb"), ("X(a&b)", "Xa&Xb"), ("X(a->b)", "Xa->Xb"), ("!Xa", "X!a"),
    ("F(a|b)", "Fa|Fb"), ("G(a&b)", "Ga&Gb"), ("GF(a|b)", "GFa|GFb"), ("FG(a&b)", "FGa&FGb"), ("aU(aUb)", "aUb"),
    ("(aUb)Ub", "aUb"), ("aU(b|c)", "(aUb)|(aUc)"), ("(a&b)Uc", "(aUc)&(bUc)"), ("aU0", "0"), ("aU1", "1"),
    ("0Ua", "a"), ("0Wa", "a"), ("aW1", "1"), ("1Wa", "1"), ("1Ra", "a"), ("0Ra", "Ga"), ("aR1", "1"), ("aR0", "0"),
    ("aWb", "bR(a|b)"), ("aUb", "(aWb)&Fb"), ("!(aWb)", "!bU(!a&!b)"), ("a->b", "!a|b"), ("a<->b", "(a->b)&(b->a)"),
    ("a<->b<->c", "c<->a<->b"), ("F(a&Fb)|F(b&Fa)", "Fa&Fb"), ("a|!a", "1"), ("a&!a", "0"), ("F0", "0"), ("G1", "1"),
    ("X1", "1"), ("X0", "0"), ("XXa", "X(Xa)"), ("a", "(((a)))"), ("!!a", "a"), ("p", " p "), ("GFa->b", "FG!a|b"),
)
DIFFERENT = (
    ("a", "b"), ("a", "!a"), ("0", "1"), ("a", "0"), ("a", "1"), ("Fa", "Ga"), ("Fa", "a"), ("Ga", "a"), ("Xa", "a"),
    ("aUb", "aWb"), ("aUb", "bUa"), ("aRb", "bRa"), ("aRb", "aUb"), ("aWb", "bR(a|!b)"), ("FGa", "GFa"),
    ("F(a&b)", "Fa&Fb"), ("G(a|b)", "Ga|Gb"), ("GF(a&b)", "GFa&GFb"), ("FG(a|b)", "FGa|FGb"), ("XFa", "Fa"),
    ("XGa", "Ga"), ("XXa", "Xa"), ("XXXXXa", "a"), ("aU(b&c)", "(aUb)&(aUc)"), ("(a|b)Uc", "(aUc)|(bUc)"),
    ("a->b", "b->a"), ("a<->b", "a&b"), ("aUbUc", "(aUb)Uc"), ("aWb", "Ga"), ("Fa", "XFa"), ("1Ua", "1Wa"),
    ("GFa->b", "GF!a|b"), ("F(a&Xb)", "F(b&Xa)"), ("aRb", "Gb"), ("aRb", "aRb&Fa"),
)
ALL = "abcdefghijklmnop"


class Laws(unittest.TestCase):
    def test_alike(self):
        for a, b in ALIKE:
            with self.subTest(a=a, b=b):
                self.assertEqual(same_of(a, b), 1)
                self.assertEqual(same_of(b, a), 1)

    def test_different(self):
        for a, b in DIFFERENT:
            with self.subTest(a=a, b=b):
                self.assertEqual(same_of(a, b), 0)
                self.assertEqual(same_of(b, a), 0)

    def test_the_system_does_not_matter(self):
        system = system_calls([1], [(0, 0)], [0])
        self.assertEqual(last_answer(system + same_call("a", "1")), 0)
        self.assertEqual(last_answer([0, 64] + same_call("Fa", "1Ua")), 1)


class Rounds(unittest.TestCase):
    """Pairs that differ only on rows on which a wish is put off again and again, and granted again and again."""

    def test_rows_that_change_at_each_moment(self):
        for text in (
            "G(a<->X!a)&Fa", "G(a<->X!a)&(bUa)", "G(a<->X!a)&!Ga", "G(a<->X!a)&!(aWb)", "G(a<->X!a)&(bR!a)",
            "G(a<->X!a)&GFa", "GFa&G(a<->X!a)", "GF(a&b)&G(a<->X!a)", "G(a<->X!a)&G!Ga", "G!Ga&G(a<->X!a)",
            "G(a<->X!a)&G(bU(a&b))", "G(bU(a&b))&G(a<->X!a)", "G(a<->X!a)&G!(bWa&!b)", "XG(a<->X!a)&GF(a&b)",
            "G(a<->X!a&X!b)&GF(a&b)", "G!(!aW(a&b))&G(b<->Xb)", "G(a<->XX!a)&GF(a&b)",
        ):
            with self.subTest(text=text):
                self.assertEqual(same_of(text, "0"), 0)
                self.assertEqual(same_of("0", text), 0)

    def test_wishes_that_such_rows_cannot_grant(self):
        for text in (
            "G(a<->X!a)&FGa", "FGa&G(a<->X!a)", "G(a<->X!a)&GF(a&Xa)", "G(a<->X!a)&F(bU(a&Xa))", "G(a<->X!a)&(aWGa)&G!b&Xa",
            "G(b->Xb)&Fb&GF!b", "G(a->X!b)&G(b->X!a)&FG(a&b)",
        ):
            with self.subTest(text=text):
                self.assertEqual(same_of(text, "0"), 1)
                self.assertEqual(same_of("0", text), 1)


class Letters(unittest.TestCase):
    def test_letters_that_only_one_names(self):
        for a, b, expected in (
            ("a", "a&(p|!p)", 1), ("a", "a|p&!p", 1), ("a", "a&p", 0), ("a", "a|p", 0), ("1", "p|!p", 1), ("0", "p", 0),
            ("1", "XFp|XG!p", 1), ("Fa", "Fa&(Fp|G!p)", 1), ("Fa", "F(a&p)|F(a&!p)", 1), ("Fa", "F(a&p)", 0),
            ("Ga", "G(a&p)|G(a&!p)", 0), ("a", "b", 0), ("Fa&!Fa", "Gb&!Gb", 1), ("Fa|!Fa", "Gb|!Gb", 1),
            ("Xa|X!a", "(bUc)|!(bUc)", 1), ("a&b", "c&d", 0), ("aUa", "a&(b<->b)", 1),
        ):
            with self.subTest(a=a, b=b):
                self.assertEqual(same_of(a, b), expected)
                self.assertEqual(same_of(b, a), expected)

    def test_each_pair_of_letters(self):
        for one in ALL:
            for two in ALL:
                self.assertEqual(same_of("F" + one, "1U" + two), int(one == two))

    def test_all_sixteen_without_time(self):
        self.assertEqual(same_of("&".join(ALL), "!(!" + "|!".join(ALL) + ")"), 1)
        self.assertEqual(same_of("&".join(ALL), "!(!" + "|!".join(ALL[:15]) + ")"), 0)
        self.assertEqual(same_of("<->".join(ALL), "<->".join(ALL[::-1])), 1)
        self.assertEqual(same_of("<->".join(ALL), "!(" + "<->".join(ALL[::-1]) + ")"), 0)
        # They differ where all sixteen letters are, and nowhere else.
        self.assertEqual(same_of("|".join(ALL), "(" + "|".join(ALL) + ")&!(" + "&".join(ALL) + ")"), 0)
        self.assertEqual(same_of("->".join(ALL), "!(" + "&".join(ALL[:15]) + ")|p"), 1)

    def test_all_sixteen_and_six_times(self):
        pairs = (
            ("F(a&b&c&d&e&f&g&h)&G(i|j|k|l|m|n|o|p)&X(a<->p)",
             "!(G(!a|!b|!c|!d|!e|!f|!g|!h)|F(!i&!j&!k&!l&!m&!n&!o&!p)|X(a<->!p))"),
            ("(a&b|c)U(d&e|f)|(g|h&i)R(j|k)|(l<->m)W(n->o&p)",
             "!(!(a&b|c)R!(d&e|f))|!(!(g|h&i)U!(j|k))|(n->o&p)R((l<->m)|(n->o&p))"),
            ("X(a&b&c&d&e)&X(f&g&h&i&j)&X(k&l&m&n&o&p)",
             "X(a&f&k&b&g&l)&X(c&h&m&d&i&n)&X(e&j&o&p)"),
            ("F(a|b|c|d|e|f|g|h|i|j|k|l|m|n|o|p)", "F(a|b|c|d)|F(e|f|g|h)|F(i|j|k|l)|F(m|n)|F(o|p)"),
            ("GF(a&b&c&d|e&f&g&h|i&j&k&l|m&n&o&p)", "GF(a&b&c&d|e&f&g&h)|GF(i&j&k&l|m&n&o&p)"),
        )
        for a, b in pairs:
            with self.subTest(a=a, b=b):
                self.assertEqual(same_of(a, b), 1)
                self.assertEqual(same_of(b, a), 1)
                self.assertEqual(same_of(a, f"!({b})"), 0)
                self.assertEqual(same_of(a.replace("p", "o"), b), 0)
                self.assertEqual(same_of(a, b.replace("a", "b")), 0)

    def test_different_on_one_choice_of_sixteen_letters(self):
        rare = "a&!b&c&!d&e&!f&g&!h&i&!j&k&!l&m&!n&o&!p"
        self.assertEqual(same_of("GFa", f"GFa&!XF({rare})"), 0)
        self.assertEqual(same_of("GFa", f"GFa|F({rare})"), 0)
        self.assertEqual(same_of("GFa", f"GFa&!F({rare}&!a)"), 1)
        self.assertEqual(same_of("Xa", f"Xa&!(X({rare})&XX({rare}))"), 0)
        self.assertEqual(same_of("X!a", f"X!a&!(X({rare})&XX({rare}))"), 1)


class AgainstTheSlowWays(unittest.TestCase):
    def test_small_formulas(self):
        source = random.Random(41)
        seen = []
        while len(seen) < 500:
            a = random_tree(source, source.randrange(1, 6), source.randrange(3), "ab")
            b = random_tree(source, source.randrange(1, 6), source.randrange(3), "ab")
            if source.random() < 0.5:
                b = source.choice((basic(a), ("!", ("!", a)), ("|", a, ("&", a, b)), ("&", a, ("|", b, ("!", b)))))
            texts = short_text(a), short_text(b)
            times = sum(text.count(sign) for text in texts for sign in TIME_SIGNS)
            if times > 6 or len(claims_in(basic(("<->", a, b)))) > 4:
                continue
            found = same_of(*texts)
            self.assertEqual(found, slow_same(a, b, 2), texts)
            seen.append(found)
        self.assertGreater(min(seen.count(0), seen.count(1)), 100)

    def test_each_sign_against_its_words(self):
        # What the slow way knows of f and g is put together as the document tells the sign.
        source = random.Random(42)
        for turn in range(150):
            f, g = (short_text(random_tree(source, source.randrange(1, 5), 1, "abc"), 6) for side in range(2))
            texts = [(f"F{f}", f"1U{f}"), (f"G{f}", f"!F!{f}"), (f"{f}R{g}", f"{g}W({f}&{g})")]
            if sum((f + g).count(sign) for sign in TIME_SIGNS) == 0:
                texts.append((f"{f}W{g}", f"({f}U{g})|G{f}"))
            for a, b in texts:
                if sum((a + b).count(sign) for sign in TIME_SIGNS) <= 6:
                    self.assertEqual(same_of(a, b), 1, (a, b))

    def test_those_that_are_the_same_agree_on_rows(self):
        source = random.Random(43)
        for turn in range(150):
            a = random_tree(source, 6, 3, "abc")
            b = random_tree(source, 6, 3, "abc")
            found = same_of(short_text(a), short_text(b))
            for row in range(8):
                moments = [source.randrange(8) for moment in range(source.randrange(1, 6))]
                u = source.randrange(len(moments))
                values = slow_word(u, moments, a), slow_word(u, moments, b)
                self.assertEqual(values[0], word_of(u, moments, short_text(a)))
                if values[0] != values[1]:
                    self.assertEqual(found, 0, (short_text(a), short_text(b)))


if __name__ == "__main__":
    unittest.main()
