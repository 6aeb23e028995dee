"""The search for a round that grants every wish, against a slow one on many small graphs."""

import random
import unittest

from helper import reached
from pathtimes.rounds import RoundSearch


def finds(arcs, steps, outlooks, wishes, starts):
    """Whether a new search finds a round from one of the starts, which it is given one behind another."""
    search = RoundSearch(arcs, steps, outlooks, wishes)
    return any(search.finds_round(start) for start in starts)


def slow_finds(edges, wishes, starts):
    """edges lists for each knot tuples of a knot and the wishes granted on the way to it."""
    follows = {knot: [other for other, granted in edges[knot]] for knot in edges}
    behind = {knot: reached(follows, knot) for knot in edges}
    for start in starts:
        for knot in behind[start] | {start}:
            together = {other for other in behind[knot] if knot in behind[other]}
            within = 0
            for one in together:
                for other, granted in edges[one]:
                    if other in together:
                        within |= granted
            if together and within == wishes:
                return True
    return False


class Rounds(unittest.TestCase):
    def test_without_wishes_any_round_will_do(self):
        self.assertTrue(finds([[0]], [[[(0, 0)]]], 1, 0, [0]))
        self.assertFalse(finds([[0]], [[[]]], 1, 0, [0]))
        self.assertFalse(finds([[]], [[[(0, 0)]]], 1, 0, [0]))
        self.assertFalse(finds([[1], []], [[[(0, 0)]], [[(0, 0)]]], 1, 0, [0, 1]))
        self.assertFalse(finds([[0]], [[[(0, 0)]]], 1, 0, []))

    def test_a_wish_granted_on_the_way_but_not_on_the_round(self):
        # Knot 0 leads to 1 and grants; 1 goes round and does not.
        steps = [[[(1, 1)], [(1, 0)]]]
        self.assertFalse(finds([[0]], steps, 2, 1, [0]))
        self.assertFalse(finds([[0]], steps, 2, 1, [0, 1]))
        steps[0][1].append((0, 0))
        self.assertTrue(finds([[0]], steps, 2, 1, [0]))
        self.assertTrue(finds([[0]], steps, 2, 1, [1]))

    def test_wishes_granted_on_different_steps_of_a_round(self):
        for wishes in (1, 3, 7, 15):
            steps = [[[((knot + 1) % 4, 1 << knot & wishes)] for knot in range(4)]]
            self.assertTrue(finds([[0]], steps, 4, wishes, [2]))
            self.assertFalse(finds([[0]], steps, 4, wishes | 16, [2]))

    def test_many_graphs_with_one_place(self):
        source = random.Random(51)
        seen = []
        for turn in range(4000):
            count = source.choice((1, 2, 4, 8))
            wishes = source.choice((0, 1, 3, 7))
            density = source.choice((0.1, 0.2, 0.35, 0.6))
            edges = {knot: [] for knot in range(count)}
            for knot in edges:
                for other in edges:
                    if source.random() < density:
                        edges[knot].append((other, source.randrange(8) & source.randrange(8) & wishes))
            starts = [knot for knot in range(count) if source.random() < 0.4]
            found = finds([[0]], [[edges[knot] for knot in range(count)]], count, wishes, starts)
            self.assertEqual(found, slow_finds(edges, wishes, starts), (edges, wishes, starts))
            seen.append(found)
        self.assertGreater(min(seen.count(True), seen.count(False)), 1000)

    def test_many_graphs_with_some_places(self):
        source = random.Random(52)
        seen = []
        for turn in range(2500):
            count, outlooks = source.randrange(1, 5), source.choice((1, 2, 4))
            wishes = source.choice((1, 3, 7))
            arcs = [[b for b in range(count) if source.random() < 0.5] for a in range(count)]
            steps = [[[(later, source.randrange(8) & wishes) for later in range(outlooks) if source.random() < 0.4]
                      for outlook in range(outlooks)] for place in range(count)]
            edges = {}
            for place in range(count):
                for outlook in range(outlooks):
                    edges[place * outlooks + outlook] = [
                        (other * outlooks + later, granted) for other in arcs[place]
                        for later, granted in steps[other][outlook]
                    ]
            starts = [knot for knot in edges if source.random() < 0.3]
            found = finds(arcs, steps, outlooks, wishes, starts)
            self.assertEqual(found, slow_finds(edges, wishes, starts), (arcs, steps, wishes, starts))
            seen.append(found)
        self.assertGreater(min(seen.count(True), seen.count(False)), 500)


if __name__ == "__main__":
    unittest.main()
