"""Formulas as a list of nodes, each of which is made of earlier ones."""

from pathtimes.signs import FRONTS, LETTERS

# The kinds of nodes. A sign that isn't a kind is told by those that are: F f is 1 U f, G f is f W 0, f R g is
# g W (f & g), f -> g is !f | g.
LETTER = "a"
NEVER = "0"
ALWAYS = "1"
NOT = "!"
AND = "&"
OR = "|"
ALIKE = "<->"
NEXT = "X"
UNTIL = "U"
UNLESS = "W"
TIMES = ("X", "U", "W")

# How much a sign binds that waits for its right side; behind a bracket nothing ahead of it is done.
BINDS = {"(": 0, "<->": 1, "->": 2, "|": 3, "&": 4, "U": 5, "R": 5, "W": 5, "!": 6, "X": 6, "F": 6, "G": 6}
# How much a waiting sign must bind at least to be done ahead of this one: as much as this one where it joins from
# the left, more where it joins from the right.
DONE_AHEAD = {"<->": 1, "->": 3, "|": 3, "&": 4, "U": 6, "R": 6, "W": 6}
ALL_IN_BRACKETS = 1


class Formulas:
    """Nodes are tuples: a kind, and two numbers: the letter's, or the places of the nodes that it is made of.

    Nodes that are alike stand there once, and behind those that they are made of.
    """

    def __init__(self):
        self.nodes = []
        self.places = {}
        # For each node: whether it's known only with what holds at later moments.
        self.ahead = []

    def place_of(self, node, ahead):
        """The place of the node, which is put behind the others where it's new."""
        if node not in self.places:
            self.places[node] = len(self.nodes)
            self.nodes.append(node)
            self.ahead.append(ahead)
        return self.places[node]

    def whole(self, sign):
        if sign in LETTERS:
            return self.place_of((LETTER, LETTERS.index(sign), 0), False)
        return self.place_of((sign, 0, 0), False)

    def made_of(self, kind, left, right):
        ahead = kind in TIMES or self.ahead[left] or self.ahead[right]
        return self.place_of((kind, left, right), ahead)

    def fronted(self, sign, inner):
        if sign == "F":
            return self.made_of(UNTIL, self.whole("1"), inner)
        if sign == "G":
            return self.made_of(UNLESS, inner, self.whole("0"))
        return self.made_of(sign, inner, inner)

    def joined(self, sign, left, right):
        if sign == "->":
            return self.made_of(OR, self.fronted("!", left), right)
        if sign == "R":
            return self.made_of(UNLESS, right, self.made_of(AND, left, right))
        return self.made_of(sign, left, right)

    def letters(self):
        """The numbers of the letters that are named."""
        return [node[1] for node in self.nodes if node[0] == LETTER]


class FormulaBuilder:
    """Puts the formula that signs tell among the formulas; by loops, since brackets nest as deep as a text is long."""

    def __init__(self, formulas):
        self.formulas = formulas
        # The places of what is whole already, and the signs that wait for their right side.
        self.ready = []
        self.waiting = []

    def do_waiting(self, least):
        """Do the signs that wait last, as long as they bind at least so much."""
        while len(self.waiting) > 0 and BINDS[self.waiting[-1]] >= least:
            sign = self.waiting.pop()
            right = self.ready.pop()
            if sign in FRONTS:
                self.ready.append(self.formulas.fronted(sign, right))
            else:
                self.ready.append(self.formulas.joined(sign, self.ready.pop(), right))

    def take(self, sign):
        if sign == ")":
            self.do_waiting(ALL_IN_BRACKETS)
            self.waiting.pop()
        elif sign in DONE_AHEAD:
            self.do_waiting(DONE_AHEAD[sign])
            self.waiting.append(sign)
        elif sign in BINDS:
            self.waiting.append(sign)
        else:
            self.ready.append(self.formulas.whole(sign))


def add_formula(formulas, signs):
    """Put the formula of these signs, which are right, among the formulas, and tell its place."""
    builder = FormulaBuilder(formulas)
    for sign in signs:
        builder.take(sign)
    builder.do_waiting(ALL_IN_BRACKETS)
    return builder.ready[0]
