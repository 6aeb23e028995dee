"""Lists of calls at their longest, within a time that stays short."""

import random
import time
import unittest

from helper import (
    answers, check_call, path_call, random_tree, same_call, short_text, system_calls, word_call
)

MOST_NUMBERS = 30000
MOST_CALLS = 400
# Each list takes some seconds at most; a way that goes through too much takes minutes or more.
MOST_SECONDS = 60


class LongLists(unittest.TestCase):
    def answered(self, calls, count):
        """The answers of a list that holds so many calls, once it's seen that it may be handed in and is done soon."""
        self.assertLessEqual(len(calls), MOST_NUMBERS)
        self.assertLessEqual(count, MOST_CALLS)
        begun = time.monotonic()
        told = answers(calls)
        self.assertLess(time.monotonic() - begun, MOST_SECONDS)
        self.assertEqual(told[::2], [1] * count)
        return told[1::2]

    def repeated(self, call, ahead=(), calls_ahead=0):
        """The call as often as a list has room for it behind what comes ahead, and how many calls that are."""
        times = min(MOST_CALLS - calls_ahead, (MOST_NUMBERS - len(ahead)) // len(call))
        return list(ahead) + call * times, calls_ahead + times, times

    def system(self, seed, marked, arcs):
        """A round through 64 states and more arcs by chance; no state has the letter p."""
        source = random.Random(seed)
        calls = [0, 64, 3, 0, 1]
        for state in range(marked):
            calls += [1, state, source.randrange(1 << 6)]
        for state in range(64):
            calls += [2, state, (state + 1) % 64, 1]
        for arc in range(arcs - 64):
            calls += [2, source.randrange(64), source.randrange(64), 1]
        return calls, 2 + marked + arcs

    def test_many_checks_that_go_through_all(self):
        for text in ("!(Fp&(1|Xa|Xb|Xc|Xd|Xe))", "!(Fp&(1|XXXXXa))", "!(Fp&(1|aUb|cUd|eUf|bUa|dUc))",
                     "!(Fp&(1|aWb|cRd|eWf|bRa|dWc))", "!(GFp&(1|GFa|GFb))"):
            for arcs in (64, 170, 300):
                ahead, calls_ahead = self.system(1, 30, arcs)
                calls, count, times = self.repeated(check_call(text), ahead, calls_ahead)
                self.assertEqual(self.answered(calls, count)[-times:], [1] * times)

    def test_checks_of_long_texts(self):
        text = "!(Fp&(1|Xa|Xb|Xc|Xd|Xe))"
        text += "&(a|!b|1)" * ((1024 - len(text)) // 9)
        ahead, calls_ahead = self.system(2, 64, 200)
        calls, count, times = self.repeated(check_call(text), ahead, calls_ahead)
        self.assertGreater(times, 20)
        self.assertEqual(self.answered(calls, count)[-times:], [1] * times)

    def test_many_pairs_with_sixteen_letters_and_six_times(self):
        for a, b, expected in (
            ("((a|m)Ub)&((c|n)U(d|k))&((e|o)U(f|l))", "((g|p)Uh)|(aUj)|((b|c)Ui)", 0),
            ("F(a&b&c)&F(d&e&f)&F(g&h&i&j&k&l&m&n&o&p)", "F(a&b&c)&F(d&e&f)&F(p&g&h&i&j&k&l&m&n&o)", 1),
        ):
            calls, count, times = self.repeated(same_call(a, b))
            self.assertGreater(times, 300)
            self.assertEqual(self.answered(calls, count), [expected] * times)

    def test_pairs_of_long_texts(self):
        a = "((a|m)Ub)&((c|n)U(d|k))&((e|o)U(f|l))"
        b = "((g|p)Uh)|(aUj)|((b|c)Ui)"
        long_a = a + "&(a|!b|!c)" * ((1024 - len(a)) // 10)
        long_b = "!" * (1020 - len(b)) + "(" + b + ")"
        calls, count, times = self.repeated(same_call(long_a, long_b))
        self.assertEqual(times, 14)
        self.assertEqual(self.answered(calls, count), [0] * times)

    def test_long_rows(self):
        for count in (4096, 60):
            row = [1] * (count - 1) + [2]
            calls, number, times = self.repeated(word_call(0, row, "GF(aUb)&X(aWb)"))
            self.assertEqual(self.answered(calls, number), [1] * times)
            ahead = system_calls([1], [(0, 0)], [0])
            calls, number, times = self.repeated(path_call(0, [0] * count, "GF(aUb)|X(aWb)"), ahead, 4)
            self.assertEqual(self.answered(calls, number)[4:], [1] * times)

    def test_a_long_row_and_a_long_text(self):
        text = "XaUF(bWGc)Rd" + "&!!(i|j)" * 126
        calls, number, times = self.repeated(word_call(2048, [4294967295] * 4096, text))
        self.assertEqual(self.answered(calls, number), [1] * times)

    def test_all_sorts_of_calls(self):
        source = random.Random(5)
        calls, count = self.system(3, 20, 100)
        while count < MOST_CALLS:
            text, other = (short_text(random_tree(source, 8, 3, "abcdefgh")) for side in range(2))
            calls += source.choice((
                check_call(text), same_call(text, other), word_call(0, [source.randrange(256) for turn in range(9)], text),
                path_call(0, list(range(64)), text), [2, source.randrange(64), source.randrange(64), 1], [3, 5, 1],
            ))
            count += 1
        told = self.answered(calls, count)
        self.assertEqual(sorted(set(told)), [0, 1])
        self.assertEqual(answers(calls)[1::2], told)

    def test_refusals_only(self):
        for call, expected in (([4] + [1100] + [40] * 1100, -1), ([4, 74] + [40] * 74, -84),
                               (same_call("a", "(" * 70), -2070), (word_call(0, [0] * 5000, "a"), -2)):
            calls, count, times = self.repeated(call)
            self.assertEqual(self.answered(calls, count), [expected] * times)


if __name__ == "__main__":
    unittest.main()
