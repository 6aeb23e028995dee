"""Point 3: check."""

import random
import unittest

from helper import (
    answers, check_call, check_of, counted, random_tree, short_text, slow_check, slow_lassos, slow_word, system_calls
)

MANY = "abcdef"


def ring(count, marks):
    """A round of so many states, with the start at 0."""
    return system_calls([marks.get(state, 0) for state in range(count)],
                        [(state, (state + 1) % count) for state in range(count)], [0])


def random_system(source, count, arcs, letters):
    marks = [source.randrange(1 << letters) for state in range(count)]
    pairs = [(source.randrange(count), source.randrange(count)) for turn in range(arcs)]
    return marks, pairs, [state for state in range(count) if source.random() < 0.5]


class NoPath(unittest.TestCase):
    def test_before_anything_is_told(self):
        for text in ("0", "1", "a", "!a", "F0", "G0", "X0", "aU0"):
            self.assertEqual(check_of(text), 1)

    def test_no_start(self):
        self.assertEqual(check_of("0", system_calls([1, 1], [(0, 1), (1, 0), (0, 0)], [])), 1)

    def test_no_arc(self):
        self.assertEqual(check_of("0", system_calls([1, 1], [], [0, 1])), 1)

    def test_a_way_that_ends(self):
        self.assertEqual(check_of("0", system_calls([1, 1, 1], [(0, 1), (1, 2)], [0, 1, 2])), 1)

    def test_a_round_that_cannot_be_reached(self):
        self.assertEqual(check_of("0", system_calls([1, 1, 1], [(0, 1), (2, 2), (2, 0)], [0])), 1)

    def test_as_soon_as_there_is_one(self):
        self.assertEqual(check_of("0", system_calls([1, 1, 1], [(0, 1), (1, 2), (2, 2)], [0])), 0)
        self.assertEqual(check_of("1", system_calls([1, 1, 1], [(0, 1), (1, 2), (2, 2)], [0])), 1)

    def test_a_start_or_an_arc_taken_away_again(self):
        system = system_calls([0], [(0, 0)], [0])
        self.assertEqual(check_of("0", system), 0)
        self.assertEqual(check_of("0", system + [3, 0, 0]), 1)
        self.assertEqual(check_of("0", system + [2, 0, 0, 0]), 1)
        self.assertEqual(check_of("0", system + [0, 1]), 1)


class Ends(unittest.TestCase):
    """A state from which no arc leads lies on no path."""

    def test_beside_a_round(self):
        # 0 goes round on itself; 1 has b, but nothing comes behind it.
        system = system_calls([1, 2], [(0, 0), (0, 1)], [0, 1])
        self.assertEqual(check_of("Ga", system), 1)
        self.assertEqual(check_of("G!b", system), 1)
        self.assertEqual(check_of("Fb", system), 0)
        self.assertEqual(check_of("Fb", system + [2, 1, 1, 1]), 0)
        self.assertEqual(check_of("Ga", system + [2, 1, 1, 1]), 0)

    def test_a_long_way_to_the_end(self):
        arcs = [(state, state + 1) for state in range(63)] + [(0, 0)]
        system = system_calls([1] + [2] * 63, arcs, [0])
        self.assertEqual(check_of("Ga", system), 1)
        self.assertEqual(check_of("Ga", system + [2, 63, 63, 1]), 0)
        self.assertEqual(check_of("aWGb", system + [2, 63, 63, 1]), 1)


class PutOffForEver(unittest.TestCase):
    def test_on_a_round_of_one(self):
        stays = system_calls([1, 2], [(0, 0), (0, 1), (1, 1)], [0])
        for text, expected in (
            ("Fb", 0), ("aUb", 0), ("aWb", 1), ("F!a", 0), ("!Fb", 0), ("Ga", 0), ("Ga|Fb", 1), ("FGa|FGb", 1),
            ("GFa|GFb", 1), ("GFb", 0), ("bR(a|b)", 1), ("bRa", 0), ("G(a|b)", 1), ("G(b->Gb)", 1), ("G(a->Xa)", 0),
            ("X(a|b)", 1), ("aUGb", 0), ("aWGb", 1), ("GFa->Ga", 1), ("FGb->aUb", 1), ("aU(b|Ga)", 1),
        ):
            with self.subTest(text=text):
                self.assertEqual(check_of(text, stays), expected)

    def test_on_a_round_of_three_with_a_way_out(self):
        system = system_calls([1, 1, 1, 2], [(0, 1), (1, 2), (2, 0), (1, 3), (3, 3)], [0])
        for text, expected in (
            ("Fb", 0), ("aUb", 0), ("aWb", 1), ("aWGb", 1), ("Fb|Ga", 1), ("GFa|FGb", 1), ("XXb|XXa", 1), ("XXb", 0),
            ("GFa<->!FGb", 1), ("Fb<->FGb", 1), ("Xa", 1), ("XX!b->XXXXa", 1), ("XX!b->XXXa", 1), ("F!a->FG!a", 1),
        ):
            with self.subTest(text=text):
                self.assertEqual(check_of(text, system), expected)

    def test_two_wishes_that_are_never_granted_on_one_round(self):
        # Each of b and c can come again and again, but not both.
        system = system_calls([1, 2, 4], [(0, 1), (1, 1), (0, 2), (2, 2)], [0])
        self.assertEqual(check_of("!(GFb&GFc)", system), 1)
        self.assertEqual(check_of("GFb|GFc", system), 1)
        self.assertEqual(check_of("GFb", system), 0)
        self.assertEqual(check_of("!(GFb&GFc)", system + [2, 2, 0, 1]), 1)
        self.assertEqual(check_of("!(GFb&GFc)", system + [2, 2, 0, 1, 2, 1, 0, 1]), 0)
        self.assertEqual(check_of("!(GFb&GFc&GFa)", system + [2, 2, 0, 1, 2, 1, 0, 1]), 0)
        self.assertEqual(check_of("!(Fb&Fc)", system), 1)


class Changes(unittest.TestCase):
    def test_check_sees_the_system_as_it_is_now(self):
        calls = [0, 2, 3, 0, 1, 2, 0, 1, 1, 2, 1, 0, 1] + check_call("GFa")
        calls += [1, 1, 1] + check_call("GFa") + [2, 0, 0, 1] + check_call("GFa") + [1, 0, 1] + check_call("Ga")
        calls += [1, 0, 2] + check_call("a") + [3, 0, 0, 3, 1, 1] + check_call("a") + check_call("Xa")
        expected = [0, 0, 0, 0, 0, 0, 1, 0, 0, 0, 1, 0, 0, 0, 0, 1, 0]
        self.assertEqual(answers(calls), counted(expected))

    def test_begin_forgets_the_marks(self):
        system = system_calls([1], [(0, 0)], [0])
        self.assertEqual(check_of("Ga", system), 1)
        self.assertEqual(check_of("Ga", system + [0, 1, 2, 0, 0, 1, 3, 0, 1]), 0)


class Rings(unittest.TestCase):
    def test_a_round_of_64(self):
        system = ring(64, {63: 1})
        for text, expected in (("Fa", 1), ("GFa", 1), ("FGa", 0), ("a", 0), ("Xa", 0), ("XXXXXXa", 0), ("!aUa", 1),
                               ("G(a->X!aUa)", 1), ("G(a->XXXXX!a)", 1), ("GF(a&XXXXa)", 0)):
            with self.subTest(text=text):
                self.assertEqual(check_of(text, system), expected)

    def test_next_counts_moments(self):
        for count in range(1, 9):
            system = ring(count, {0: 1})
            for steps in range(7):
                self.assertEqual(check_of("X" * steps + "a", system), int(steps % count == 0))

    def test_every_state_may_be_the_start(self):
        system = ring(64, {state: 1 << state % 16 for state in range(64)})
        for start in range(64):
            moved = system + [3, 0, 0, 3, start, 1]
            letters = "abcdefghijklmnop"
            self.assertEqual(check_of(letters[start % 16] + "&X" + letters[(start + 1) % 16], moved), 1)
            self.assertEqual(check_of(letters[(start + 1) % 16], moved), 0)

    def test_all_64_starts_and_one_that_is_wrong(self):
        marks = [1] * 64
        arcs = [(state, state) for state in range(64)]
        self.assertEqual(check_of("Ga", system_calls(marks, arcs, range(64))), 1)
        for wrong in (0, 17, 63):
            other = [0 if state == wrong else 1 for state in range(64)]
            self.assertEqual(check_of("Ga", system_calls(other, arcs, range(64))), 0)
            self.assertEqual(check_of("Ga|G!a", system_calls(other, arcs, range(64))), 1)


class ManyArcs(unittest.TestCase):
    """Systems of 64 states: what must hold between the answers, and rows that walks through the system give."""

    def walk(self, source, marks, arcs, starts):
        """A path that goes round, by chance; None where the walk ends."""
        states = [source.choice(starts)]
        while len(states) < 2 or states[-1] not in states[:-1]:
            later = [b for a, b in arcs if a == states[-1]]
            if not later:
                return None
            states.append(source.choice(later))
        return states[:-1], states.index(states[-1])

    def test_walks(self):
        source = random.Random(21)
        seen = []
        for turn in range(10):
            marks, arcs, starts = random_system(source, 64, 330, 4)
            starts = starts or [0]
            system = system_calls(marks, arcs, starts[:1])
            trees = [random_tree(source, 9, 6, "abcd") for tree in range(40)]
            calls = list(system)
            for tree in trees:
                calls += check_call(short_text(tree))
            found = answers(calls)[-2 * len(trees) + 1::2]
            walks = [self.walk(source, marks, arcs, starts[:1]) for number in range(30)]
            for tree, answer in zip(trees, found):
                rows = [slow_word(walk[1], [marks[state] for state in walk[0]], tree) for walk in walks if walk]
                if 0 in rows:
                    self.assertEqual(answer, 0, short_text(tree))
                seen.append(answer)
        self.assertEqual(sorted(set(seen)), [0, 1])

    def test_both_are_true_of_all_where_each_is(self):
        source = random.Random(22)
        seen = []
        for turn in range(12):
            marks, arcs, starts = random_system(source, 64, 250, 3)
            system = system_calls(marks, arcs, starts[:2])
            for pair in range(8):
                left, right = (short_text(random_tree(source, 6, 3, "abc")) for side in range(2))
                found = [check_of(text, system) for text in (left, right, f"({left})&({right})")]
                self.assertEqual(found[2], found[0] * found[1], (left, right))
                seen.append(found[2])
        self.assertEqual(sorted(set(seen)), [0, 1])

    def test_six_wishes_on_a_system_with_many_arcs(self):
        # State s has letter s % 6 alone; from each state five arcs lead on, none to a state with the letter f.
        marks = [1 << state % 6 for state in range(64)]
        arcs = [(state, (state * 5 + step) % 64) for state in range(64) for step in range(7)]
        arcs = [(a, b) for a, b in arcs if marks[b] != 32][:330]
        system = system_calls(marks, arcs, [0])
        self.assertEqual(check_of("!(Fa&Fb&Fc&Fd&Fe&Ff)", system), 1)
        self.assertEqual(check_of("!(Fa&Fb&Fc&Fd&Fe&G!f)", system), 0)
        self.assertEqual(check_of("(!fWa)&(!fWb)&(!fWc)&(!fWd)&(!fWe)&(aR!f)", system), 1)
        self.assertEqual(check_of("G(a->!fU(b|c))|GFd|GFe", system), 0)

    def test_all_states_joined_with_each_other_as_far_as_calls_reach(self):
        # Nineteen states with all arcs between them: any row of their marks is a path's.
        marks = list(range(16)) + [0, 1, 2]
        arcs = [(a, b) for a in range(19) for b in range(19)]
        system = system_calls(marks, arcs, [0])
        self.assertEqual(check_of("XFa|XG!a", system), 1)
        self.assertEqual(check_of("GF(a&b)->GFa&GFb", system), 1)
        self.assertEqual(check_of("GFa&GFb->GF(a&b)", system), 0)
        self.assertEqual(check_of("X(aUb&cUd->F(b&Fd|d&Fb))", system), 1)
        self.assertEqual(check_of("X(aUb&cUd->F(b&d))", system), 0)


class AgainstTheSlowWays(unittest.TestCase):
    def test_small_systems(self):
        source = random.Random(23)
        seen = []
        while len(seen) < 500:
            count = source.randrange(1, 5)
            marks, arcs, starts = random_system(source, count, source.randrange(1, 2 * count + 2), 2)
            tree = random_tree(source, source.randrange(1, 9), source.randrange(4), "ab")
            text = short_text(tree)
            found = check_of(text, system_calls(marks, arcs, starts))
            self.assertEqual(found, slow_check(marks, arcs, starts, tree), (marks, arcs, starts, text))
            seen.append(found)
        self.assertGreater(min(seen.count(0), seen.count(1)), 80)

    def test_all_rounds_of_small_systems(self):
        source = random.Random(24)
        seen = []
        while len(seen) < 150:
            marks, arcs, starts = random_system(source, 3, source.randrange(2, 6), 2)
            tree = random_tree(source, source.randrange(2, 9), 6, "ab")
            rounds = list(slow_lassos(marks, arcs, starts, 6))
            rows = [slow_word(u, [marks[state] for state in states], tree) for states, u in rounds]
            found = check_of(short_text(tree), system_calls(marks, arcs, starts))
            if 0 in rows:
                self.assertEqual(found, 0, (marks, arcs, starts, short_text(tree)))
            if found == 0:
                # So short are the ways that show it, in systems and formulas as small as these.
                self.assertIn(0, rows, (marks, arcs, starts, short_text(tree)))
            seen.append(found)
        self.assertGreater(min(seen.count(0), seen.count(1)), 20)


if __name__ == "__main__":
    unittest.main()
