"""Points 1 and 2, seen on the system itself: what a call answers and what it leaves."""

import unittest

from pathtimes.states import StateSystem

LOWEST = -2147483648
HIGHEST = 2147483647


def shown(system):
    return (system.size, list(system.marks), list(system.arcs), system.starts)


def arcs_of(system):
    return [(a, b) for a in range(system.size) for b in range(64) if system.arcs[a] >> b & 1]


def starts_of(system):
    return [state for state in range(64) if system.starts >> state & 1]


def filled(n):
    """A system of n states in which nothing is as it was at the beginning."""
    system = StateSystem()
    system.begin(n)
    for state in range(n):
        system.mark(state, state + 1)
        system.start(state, 1)
        for b in range(n):
            system.arc(state, b, 1)
    return system


class StateCase(unittest.TestCase):
    def refused(self, system, call):
        before = shown(system)
        self.assertEqual(call(), -1)
        self.assertEqual(shown(system), before)


class BeforeTheFirstBegin(StateCase):
    def test_one_state_unmarked_without_arcs_and_starts(self):
        self.assertEqual(shown(StateSystem()), (1, [0], [0], 0))

    def test_the_one_state_takes_every_call(self):
        system = StateSystem()
        self.assertEqual(system.mark(0, 7), 0)
        self.assertEqual(system.arc(0, 0, 1), 0)
        self.assertEqual(system.start(0, 1), 0)
        self.assertEqual(shown(system), (1, [7], [1], 1))

    def test_there_is_no_second_state(self):
        system = filled(1)
        self.refused(system, lambda: system.mark(1, 0))
        self.refused(system, lambda: system.arc(0, 1, 1))
        self.refused(system, lambda: system.arc(1, 0, 1))
        self.refused(system, lambda: system.start(1, 1))

    def test_two_systems_share_nothing(self):
        filled(1)
        self.assertEqual(shown(StateSystem()), (1, [0], [0], 0))


class Begin(StateCase):
    def test_every_number_from_1_to_64(self):
        for n in range(1, 65):
            system = StateSystem()
            self.assertEqual(system.begin(n), 0)
            self.assertEqual(shown(system), (n, [0] * n, [0] * n, 0))

    def test_other_numbers_change_nothing(self):
        for size in (1, 5, 64):
            system = filled(size)
            for n in (0, 65, -1, -64, 66, 128, LOWEST, HIGHEST):
                with self.subTest(size=size, n=n):
                    self.refused(system, lambda: system.begin(n))

    def test_one_that_is_taken_leaves_nothing_of_before(self):
        for size in (1, 3, 64):
            for n in (1, 3, 64):
                with self.subTest(size=size, n=n):
                    system = filled(size)
                    self.assertEqual(system.begin(n), 0)
                    self.assertEqual(shown(system), (n, [0] * n, [0] * n, 0))


class Mark(StateCase):
    def test_the_first_and_the_last_state(self):
        for n in (2, 3, 64):
            system = StateSystem()
            system.begin(n)
            self.assertEqual(system.mark(0, 5), 0)
            self.assertEqual(system.mark(n - 1, 65535), 0)
            self.assertEqual(shown(system), (n, [5] + [0] * (n - 2) + [65535], [0] * n, 0))

    def test_a_later_mark_takes_the_place_of_an_earlier_one(self):
        system = StateSystem()
        for propositions in (1, 65535, 2, 0):
            self.assertEqual(system.mark(0, propositions), 0)
            self.assertEqual(system.marks, [propositions])

    def test_states_that_are_not_there(self):
        for n in (1, 4, 64):
            system = filled(n)
            for state in (-1, -n, n, n + 1, 64, LOWEST, HIGHEST):
                with self.subTest(n=n, state=state):
                    self.refused(system, lambda: system.mark(state, 0))

    def test_propositions_from_bit_16_on(self):
        system = filled(2)
        for propositions in (65536, 65537, 131071, 2147483648, 4294967295):
            with self.subTest(propositions=propositions):
                self.refused(system, lambda: system.mark(1, propositions))
                self.refused(system, lambda: system.mark(2, propositions))

    def test_each_single_proposition(self):
        system = StateSystem()
        for bit in range(32):
            with self.subTest(bit=bit):
                self.assertEqual(system.mark(0, 1 << bit), 0 if bit < 16 else -1)


class Arc(StateCase):
    def test_the_first_and_the_last_state(self):
        for n in (2, 64):
            for a, b in ((0, 0), (0, n - 1), (n - 1, 0), (n - 1, n - 1)):
                with self.subTest(n=n, a=a, b=b):
                    system = StateSystem()
                    system.begin(n)
                    self.assertEqual(system.arc(a, b, 1), 0)
                    self.assertEqual(arcs_of(system), [(a, b)])
                    self.assertEqual((system.marks, system.starts), ([0] * n, 0))

    def test_anything_but_0_is_there(self):
        for there in (1, 2, -1, -2, 256, LOWEST, HIGHEST):
            with self.subTest(there=there):
                system = StateSystem()
                system.begin(3)
                self.assertEqual(system.arc(1, 2, there), 0)
                self.assertEqual(arcs_of(system), [(1, 2)])

    def test_said_twice_it_is_one_arc(self):
        system = StateSystem()
        system.begin(3)
        for there in (1, 1, -5):
            self.assertEqual(system.arc(2, 0, there), 0)
            self.assertEqual(arcs_of(system), [(2, 0)])
        self.assertEqual(system.arc(2, 0, 0), 0)
        self.assertEqual(arcs_of(system), [])

    def test_taken_away_where_there_is_none(self):
        system = StateSystem()
        system.begin(3)
        system.arc(0, 1, 1)
        self.assertEqual(system.arc(1, 0, 0), 0)
        self.assertEqual(system.arc(0, 2, 0), 0)
        self.assertEqual(arcs_of(system), [(0, 1)])

    def test_only_the_one_that_is_named_is_taken_away(self):
        system = filled(3)
        self.assertEqual(system.arc(1, 2, 0), 0)
        self.assertEqual(arcs_of(system), [(0, 0), (0, 1), (0, 2), (1, 0), (1, 1), (2, 0), (2, 1), (2, 2)])
        self.assertEqual((system.marks, system.starts), ([1, 2, 3], 7))

    def test_states_that_are_not_there(self):
        for n in (1, 4, 64):
            system = filled(n)
            for state in (-1, -n, n, n + 1, 64, LOWEST, HIGHEST):
                for there in (0, 1):
                    with self.subTest(n=n, state=state, there=there):
                        self.refused(system, lambda: system.arc(state, 0, there))
                        self.refused(system, lambda: system.arc(n - 1, state, there))
                        self.refused(system, lambda: system.arc(state, state, there))


class Start(StateCase):
    def test_the_first_and_the_last_state(self):
        for n in (2, 64):
            for state in (0, n - 1):
                with self.subTest(n=n, state=state):
                    system = StateSystem()
                    system.begin(n)
                    self.assertEqual(system.start(state, 1), 0)
                    self.assertEqual(starts_of(system), [state])
                    self.assertEqual((system.marks, system.arcs), ([0] * n, [0] * n))

    def test_anything_but_0_is_there(self):
        for there in (1, 2, -1, -2, 256, LOWEST, HIGHEST):
            with self.subTest(there=there):
                system = StateSystem()
                system.begin(3)
                self.assertEqual(system.start(1, there), 0)
                self.assertEqual(starts_of(system), [1])

    def test_said_twice_it_is_one_start(self):
        system = StateSystem()
        system.begin(3)
        for there in (1, 1, -5):
            self.assertEqual(system.start(2, there), 0)
            self.assertEqual(starts_of(system), [2])
        self.assertEqual(system.start(2, 0), 0)
        self.assertEqual(starts_of(system), [])

    def test_taken_away_where_there_is_none(self):
        system = StateSystem()
        system.begin(3)
        system.start(0, 1)
        self.assertEqual(system.start(1, 0), 0)
        self.assertEqual(starts_of(system), [0])

    def test_only_the_one_that_is_named_is_taken_away(self):
        system = filled(3)
        self.assertEqual(system.start(1, 0), 0)
        self.assertEqual(starts_of(system), [0, 2])
        self.assertEqual((system.marks, system.arcs), ([1, 2, 3], [7, 7, 7]))

    def test_states_that_are_not_there(self):
        for n in (1, 4, 64):
            system = filled(n)
            for state in (-1, -n, n, n + 1, 64, LOWEST, HIGHEST):
                for there in (0, 1):
                    with self.subTest(n=n, state=state, there=there):
                        self.refused(system, lambda: system.start(state, there))


if __name__ == "__main__":
    unittest.main()
