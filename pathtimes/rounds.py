"""Whether an endless way can be gone on which every wish is granted again and again."""

UNSEEN = 0
LEFT = -1


class RoundSearch:
    """Goes through knots: a place together with an outlook, as the number place * outlooks + outlook.

    arcs lists for each place those that may come next. steps lists for a place and the outlook of the knot before it
    the knots that may come then: tuples of the outlook there and the wishes that are granted on the way, as bits.
    Some endless way grants every wish again and again just where one can get to a round that grants them all. Such a
    round is looked for depth first; knots of which each is on a round with the others are kept together.
    """

    def __init__(self, arcs, steps, outlooks, wishes):
        self.arcs = arcs
        self.steps = steps
        self.outlooks = outlooks
        self.wishes = wishes
        # For each knot UNSEEN, LEFT where no round can be met from it, or how many are live with it.
        self.standing = [UNSEEN] * (len(arcs) * outlooks)
        self.live = []
        # For each group of live knots: its first one's standing, the wishes granted in it, those on the step into it.
        self.groups = []
        self.trail = []

    def steps_from(self, knot):
        place = knot // self.outlooks
        outlook = knot % self.outlooks
        found = []
        for other in self.arcs[place]:
            first = other * self.outlooks
            for later, granted in self.steps[other][outlook]:
                found.append((first + later, granted))
        return found

    def enter(self, knot, granted):
        self.live.append(knot)
        self.standing[knot] = len(self.live)
        self.groups.append((len(self.live), 0, granted))
        self.trail.append((knot, self.steps_from(knot)))

    def go_back(self, knot):
        """All ways from the knot are gone: leave its group where it is the group's first."""
        self.trail.pop()
        first = self.groups[-1][0]
        if first == self.standing[knot]:
            self.groups.pop()
            while len(self.live) >= first:
                self.standing[self.live.pop()] = LEFT

    def close(self, knot, granted):
        """A step back to a live knot makes one group of all from there on: tell whether it grants every wish."""
        first, within, into = self.groups.pop()
        gathered = granted | within
        while first > self.standing[knot]:
            gathered |= into
            first, within, into = self.groups.pop()
            gathered |= within
        self.groups.append((first, gathered, into))
        return gathered == self.wishes

    def finds_round(self, start):
        """Whether a round that grants every wish can be met from the knot. Once it's found, the search is over."""
        if self.standing[start] != UNSEEN:
            return False
        self.enter(start, 0)
        while len(self.trail) > 0:
            knot, steps = self.trail[-1]
            if len(steps) == 0:
                self.go_back(knot)
                continue
            other, granted = steps.pop()
            if self.standing[other] == UNSEEN:
                self.enter(other, granted)
            elif self.standing[other] != LEFT and self.close(other, granted):
                return True
        return False
