"""The grammar of formulas, where spaces may stand, and the first wrong byte."""

import itertools
import random
import unittest

from helper import (
    bracketed, check_of, path_of, random_tree, same_of, short_text, slow_read, slow_wrong_place, text_bytes, word_of
)
from pathtimes.formulas import Formulas, add_formula
from pathtimes.signs import NOWHERE, read_signs
from pathtimes.texts import understand

# What a text says, and the same with every joining in brackets.
BRACKETS = (
    ("a<->b<->c", "((a<->b)<->c)"),
    ("a->b->c", "(a->(b->c))"),
    ("a|b|c", "((a|b)|c)"),
    ("a&b&c", "((a&b)&c)"),
    ("aUbUc", "(aU(bUc))"),
    ("aRbRc", "(aR(bRc))"),
    ("aWbWc", "(aW(bWc))"),
    ("aUbRcWd", "(aU(bR(cWd)))"),
    ("aWbRcUd", "(aW(bR(cUd)))"),
    ("a<->b->c", "(a<->(b->c))"),
    ("a->b<->c", "((a->b)<->c)"),
    ("a->b|c", "(a->(b|c))"),
    ("a|b->c", "((a|b)->c)"),
    ("a|b&c", "(a|(b&c))"),
    ("a&b|c", "((a&b)|c)"),
    ("a&bUc", "(a&(bUc))"),
    ("aUb&c", "((aUb)&c)"),
    ("aUb|c", "((aUb)|c)"),
    ("a|bUc", "(a|(bUc))"),
    ("a->bUc", "(a->(bUc))"),
    ("aUb->c", "((aUb)->c)"),
    ("a<->b&c", "(a<->(b&c))"),
    ("a&b<->c", "((a&b)<->c)"),
    ("!a&b", "((!a)&b)"),
    ("!aUb", "((!a)Ub)"),
    ("XaUb", "((Xa)Ub)"),
    ("FaRb", "((Fa)Rb)"),
    ("GaWb", "((Ga)Wb)"),
    ("aUXb&c", "((aU(Xb))&c)"),
    ("!X!F!Ga", "(!(X(!(F(!(Ga))))))"),
    ("!(a|b)&c", "((!(a|b))&c)"),
    ("a<->b->c|d&eUf", "(a<->(b->(c|(d&(eUf)))))"),
    ("aUb&c|d->e<->f", "(((((aUb)&c)|d)->e)<->f)"),
    ("a->b->c<->d->e->f<->g", "(((a->(b->c))<->(d->(e->f)))<->g)"),
    ("0|1", "(0|1)"),
    ("((a))", "a"),
    ("(a->b)->c", "((a->b)->c)"),
    ("a&(b&c)", "(a&(b&c))"),
    ("(aUb)Uc", "((aUb)Uc)"),
)
# Texts that look alike but are not the same.
DIFFERENT = (
    ("a<->b<->c", "a<->(b<->c)"), ("a->b->c", "(a->b)->c"), ("a|b|c", "a|(b|c)"), ("a&b&c", "a&(b&c)"),
    ("aUbUc", "(aUb)Uc"), ("aRbRc", "(aRb)Rc"), ("aWbWc", "(aWb)Wc"), ("aUbRc", "(aUb)Rc"), ("a|b&c", "(a|b)&c"),
    ("a&bUc", "(a&b)Uc"), ("aUb&c", "aU(b&c)"), ("!a&b", "!(a&b)"), ("XaUb", "X(aUb)"), ("GaWb", "G(aWb)"),
    ("a->b<->c", "a->(b<->c)"), ("a<->b->c", "(a<->b)->c"), ("a->b|c", "(a->b)|c"), ("a|b->c", "a|(b->c)"),
)


def nodes_of(*texts):
    """The places of the texts' formulas in one list of nodes: equal just where they are built alike."""
    formulas = Formulas()
    return [add_formula(formulas, read_signs(text_bytes(text))[0]) for text in texts]


def wrong_place(text):
    return read_signs(text_bytes(text))[1]


class Binding(unittest.TestCase):
    def test_what_binds_more_and_from_which_side(self):
        for text, full in BRACKETS:
            with self.subTest(text=text):
                first, second = nodes_of(text, full)
                self.assertEqual(first, second)

    def test_what_is_not_built_alike(self):
        for text, other in DIFFERENT:
            with self.subTest(text=text):
                first, second = nodes_of(text, other)
                self.assertNotEqual(first, second)

    def test_seen_in_answers(self):
        self.assertEqual(same_of("a->b->c", "a->(b->c)"), 1)
        self.assertEqual(same_of("a->b->c", "(a->b)->c"), 0)
        self.assertEqual(same_of("aUbUc", "aU(bUc)"), 1)
        self.assertEqual(same_of("aUbUc", "(aUb)Uc"), 0)
        self.assertEqual(same_of("aWbWc", "(aWb)Wc"), 0)
        self.assertEqual(same_of("aRbRc", "(aRb)Rc"), 0)
        self.assertEqual(same_of("a|b&c", "(a|b)&c"), 0)
        self.assertEqual(same_of("a&bUc", "(a&b)Uc"), 0)
        self.assertEqual(same_of("XaUb", "X(aUb)"), 0)
        self.assertEqual(same_of("!aUb", "!(aUb)"), 0)
        self.assertEqual(same_of("a->b<->c", "a->(b<->c)"), 0)
        self.assertEqual(same_of("a<->b->c", "(a<->b)->c"), 0)

    def test_each_pair_of_joinings(self):
        signs = ("<->", "->", "|", "&", "U", "R", "W")
        level = {"<->": 1, "->": 2, "|": 3, "&": 4, "U": 5, "R": 5, "W": 5}
        for one, two in itertools.product(signs, signs):
            left_first = level[one] > level[two] or level[one] == level[two] and one in ("<->", "|", "&")
            full = f"((a{one}b){two}c)" if left_first else f"(a{one}(b{two}c))"
            other = f"(a{one}(b{two}c))" if left_first else f"((a{one}b){two}c)"
            with self.subTest(one=one, two=two):
                found, same, different = nodes_of(f"a{one}b{two}c", full, other)
                self.assertEqual(found, same)
                self.assertNotEqual(found, different)

    def test_many_formulas(self):
        source = random.Random(11)
        for turn in range(1500):
            tree = random_tree(source, source.randrange(1, 25), 6, "abcdefghijklmnop")
            text, full = short_text(tree), bracketed(tree)
            self.assertEqual((slow_read(text), slow_read(full)), (tree, tree))
            first, second = nodes_of(text, full)
            self.assertEqual(first, second, text)

    def test_each_letter_is_its_own_bit(self):
        for bit, letter in enumerate("abcdefghijklmnop"):
            for other in range(16):
                self.assertEqual(word_of(0, [1 << other], letter), int(bit == other))


class Spaces(unittest.TestCase):
    TEXT = "!(a->XbUc)<->(F0|G1&pRe)Wf"

    def places_within_arrows(self):
        """The places ahead of which a space would stand within an arrow."""
        text = self.TEXT
        found = [place + 1 for place in range(len(text)) if text[place:place + 2] == "->"]
        return found + [place + 1 for place in range(len(text)) if text[place:place + 2] == "<-"]

    def test_one_space_at_each_place(self):
        within = self.places_within_arrows()
        self.assertEqual(len(within), 3)
        for place in range(len(self.TEXT) + 1):
            for spaces in (" ", "   "):
                text = self.TEXT[:place] + spaces + self.TEXT[place:]
                with self.subTest(text=text):
                    if place in within:
                        self.assertEqual(word_of(0, [1], text), -10 - place)
                    else:
                        first, second = nodes_of(text, self.TEXT)
                        self.assertEqual((wrong_place(text), first), (NOWHERE, second))

    def test_spaces_everywhere_at_once(self):
        text = "  ! ( a -> X b U c ) <-> ( F 0 | G 1 & p R e ) W f   "
        first, second = nodes_of(text, self.TEXT)
        self.assertEqual((wrong_place(text), first), (NOWHERE, second))

    def test_spaces_within_arrows(self):
        for text, place in (
            ("a- >b", 2), ("a< ->b", 2), ("a<- >b", 3), ("a - > b", 3), ("a < - > b", 3), ("a <- > b", 4), ("a- ", 2),
            ("a< ", 2), ("a<- ", 3),
        ):
            with self.subTest(text=text):
                self.assertEqual(word_of(0, [1], text), -10 - place)

    def test_other_white_bytes_are_wrong(self):
        for byte in (0, 9, 10, 11, 12, 13, 133, 160):
            self.assertEqual(word_of(0, [1], [97, byte]), -11)
            self.assertEqual(word_of(0, [1], [byte, 97]), -10)


class FirstWrongByte(unittest.TestCase):
    def test_examples(self):
        for text, place in (
            ("", 0), (" ", 1), ("     ", 5), ("!", 1), ("a&", 2), ("a&  ", 4), ("(a", 2), ("(a  ", 4), ("((a)", 4),
            ("a)", 1), ("(a))", 3), ("()", 1), ("ab", 1), ("a b", 2), ("a!", 1), ("aXb", 1), ("aFb", 1), ("aGb", 1),
            ("a0", 1), ("a(b)", 1), ("(a)(b)", 3), ("a&&b", 2), ("a||b", 2), ("aUUb", 2), ("Ua", 0), ("&a", 0),
            ("->a", 0), ("<->a", 0), (">a", 0), ("-a", 0), ("<a", 0), ("a-", 2), ("a<", 2), ("a<-", 3), ("a->", 3),
            ("a<->", 4), ("a-b", 2), ("a<b", 2), ("a<>b", 2), ("a<-b", 3), ("a<<->b", 2), ("a-->b", 2), ("a->>b", 3),
            ("a<-->b", 3), ("a=b", 1), ("q", 0), ("A", 0), ("a&q", 2), ("2", 0), ("a & b c", 6), ("!)", 1), ("(!)", 2),
            ("a|)", 2), ("X", 1), ("XX  ", 4), ("a>", 1), ("a>b", 1), ("T", 0), ("a~b", 1), ("(a->)", 4), ("~a", 0),
        ):
            with self.subTest(text=text):
                self.assertEqual(check_of(text), -10 - place)
                self.assertEqual(path_of([], 0, [0], text), -10 - place)
                self.assertEqual(word_of(0, [0], text), -10 - place)
                self.assertEqual(same_of(text, "a"), -10 - place)
                self.assertEqual(same_of("a", text), -2000 - place)

    def test_all_short_texts(self):
        for length in range(5):
            for signs in itertools.product("a!(U)-><& ", repeat=length):
                text = "".join(signs)
                expected = slow_wrong_place(text)
                self.assertEqual(wrong_place(text), NOWHERE if expected is None else expected, text)

    def test_any_byte_behind_each_sort_of_beginning(self):
        for beginning in ("", " ", "a", "a ", "(", "(a", "(a)", "!", "X", "a&", "aU", "a-", "a->", "a<", "a<-", "a<->",
                          "((a)", "(a ", "0", "1 "):
            for byte in range(256):
                text = beginning + chr(byte)
                expected = slow_wrong_place(text)
                with self.subTest(text=text):
                    self.assertEqual(wrong_place(text), NOWHERE if expected is None else expected)

    def test_a_wrong_byte_at_each_place(self):
        text = "!(a->XbUc)<->(F0|G1&pRe)Wf"
        for place in range(len(text) + 1):
            for byte in (0, 7, 63, 96, 113, 127, 128, 255):
                with self.subTest(place=place, byte=byte):
                    broken = text_bytes(text[:place]) + [byte] + text_bytes(text[place:])
                    self.assertEqual(word_of(0, [1], broken), -10 - place)
                    self.assertEqual(same_of("a", broken), -2000 - place)
                    replaced = text_bytes(text[:place]) + [byte] + text_bytes(text[place + 1:])
                    self.assertEqual(check_of(replaced), -10 - place)

    def test_cut_off_at_each_place(self):
        text = "!(a -> X b U c) <-> (F 0 | G1 & pRe) W f"
        for place in range(len(text) + 1):
            cut = text[:place]
            expected = slow_wrong_place(cut)
            self.assertIn(expected, (None, place))
            for spaces in (0, 3):
                if cut.endswith(("-", "<")) and spaces > 0:
                    continue
                with self.subTest(cut=cut, spaces=spaces):
                    found = word_of(0, [1], cut + " " * spaces)
                    if expected is None:
                        self.assertIn(found, (0, 1))
                    else:
                        self.assertEqual(found, -10 - place - spaces)

    def test_many_texts(self):
        source = random.Random(12)
        for turn in range(4000):
            if turn % 2 == 0:
                signs = [source.choice("aap01!XFG(()) <->-->->&|URWqAY\t") for place in range(source.randrange(12))]
            else:
                signs = list(short_text(random_tree(source, source.randrange(1, 10), 4, "abp")))
                for change in range(source.randrange(3)):
                    signs.insert(source.randrange(len(signs) + 1), source.choice("  ab!()<->&|U~"))
            text = "".join(signs)
            expected = slow_wrong_place(text)
            self.assertEqual(wrong_place(text), NOWHERE if expected is None else expected, text)

    def test_far_behind(self):
        self.assertEqual(check_of(" " * 1024), -10 - 1024)
        self.assertEqual(check_of("(" * 1024), -10 - 1024)
        self.assertEqual(check_of("a" + " " * 1022 + "a"), -10 - 1023)
        self.assertEqual(same_of("a", "!" * 1024), -2000 - 1024)
        self.assertEqual(same_of("!" * 1024, "a"), -10 - 1024)
        self.assertEqual(same_of("a", " " * 1022 + "a)"), -2000 - 1023)

    def test_the_first_text_is_told_first(self):
        self.assertEqual(same_of("aa", "?"), -11)
        self.assertEqual(same_of("a", "?"), -2000)
        self.assertEqual(same_of("", ""), -10)
        self.assertEqual(same_of("a", ""), -2000)


class Understanding(unittest.TestCase):
    def test_a_refused_text_gives_no_formula(self):
        refusal, formulas, roots = understand([text_bytes("a&")])
        self.assertEqual((refusal, formulas.nodes, roots), (-12, [], []))

    def test_what_is_alike_stands_there_once(self):
        refusal, formulas, roots = understand([text_bytes("(a&b)U(a&b)|F(a&b)|1U(a&b)")])
        self.assertEqual(refusal, 0)
        self.assertEqual(len([node for node in formulas.nodes if node[0] == "U"]), 2)


if __name__ == "__main__":
    unittest.main()
