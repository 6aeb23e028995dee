"""A system: its states, what they are marked with, its arcs and its starts."""

DONE = 0
REFUSED = -1
MOST_STATES = 64
PROPOSITIONS_END = 65536


def with_bit(bits, place, there):
    """The bits with the one at the place set, or with it taken away where there is 0."""
    if there == 0:
        return bits & ~(1 << place)
    return bits | (1 << place)


class StateSystem:
    """States are numbered from 0; arcs[a] has bit b for an arc from a to b, starts bit s for a start s."""

    def __init__(self):
        self.size = 1
        self.marks = [0]
        self.arcs = [0]
        self.starts = 0

    def has_state(self, state):
        # A list takes an index below 0 too, so both ends are asked for.
        return 0 <= state < self.size

    def begin(self, n):
        if not 1 <= n <= MOST_STATES:
            return REFUSED
        self.size = n
        self.marks = [0] * n
        self.arcs = [0] * n
        self.starts = 0
        return DONE

    def mark(self, state, propositions):
        if not self.has_state(state) or propositions >= PROPOSITIONS_END:
            return REFUSED
        self.marks[state] = propositions
        return DONE

    def arc(self, a, b, there):
        if not self.has_state(a) or not self.has_state(b):
            return REFUSED
        self.arcs[a] = with_bit(self.arcs[a], b, there)
        return DONE

    def start(self, state, there):
        if not self.has_state(state):
            return REFUSED
        self.starts = with_bit(self.starts, state, there)
        return DONE
