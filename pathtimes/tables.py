"""Tables of truth: whole numbers whose bit c tells whether something is true in case c."""

from pathtimes.formulas import ALWAYS, AND, LETTER, NEVER, NOT, OR


def bit_places(bits):
    """The places of the bits that are set, the lowest first."""
    found = []
    while bits != 0:
        place = (bits & -bits).bit_length() - 1
        found.append(place)
        bits = bits ^ (1 << place)
    return found


def mark_tables(letters, marks):
    """For each of these letters its table, over one case for each mark."""
    tables = {}
    for letter in letters:
        table = 0
        for case, mark in enumerate(marks):
            table |= (mark >> letter & 1) << case
        tables[letter] = table
    return tables


def choice_tables(letters):
    """For each of these letters its table, over one case for each choice of them."""
    tables = {}
    size = 1
    for letter in letters:
        # All cases once without the new letter, once with it.
        for other in list(tables):
            tables[other] = tables[other] | (tables[other] << size)
        tables[letter] = ((1 << size) - 1) << size
        size = size * 2
    return tables


class CaseParts:
    """The cases by what some tables say of them, one part after another.

    A part is made when it's asked for, since there may be many, and each has as many bits as a table.
    """

    def __init__(self, tables, full):
        self.tables = tables
        # How many tables are asked already, what they say, and of which cases.
        self.waiting = [(0, 0, full)]

    def next_part(self):
        """A tuple of a number, whose bit k is what table k says, and the cases; None where none are left."""
        if len(self.waiting) == 0:
            return None
        asked, number, cases = self.waiting.pop()
        while asked < len(self.tables):
            inside = cases & self.tables[asked]
            if inside != 0 and inside != cases:
                self.waiting.append((asked + 1, number, cases ^ inside))
            if inside != 0:
                number |= 1 << asked
                cases = inside
            asked += 1
        return number, cases


class CaseTables:
    """The table of every node of some formulas. A case is a moment's letters; full has the bits of all cases."""

    def __init__(self, formulas, letter_tables, full):
        self.nodes = formulas.nodes
        self.letter_tables = letter_tables
        self.full = full
        self.tables = [0] * len(formulas.nodes)
        # The places of the nodes that wait for what is told of later moments.
        self.timed = [place for place, ahead in enumerate(formulas.ahead) if ahead]
        for place, ahead in enumerate(formulas.ahead):
            if not ahead:
                self.fill_plain(place)

    def fill_plain(self, place):
        """Fill in the table of a node that is known from what it's made of, at the same moment."""
        kind, left, right = self.nodes[place]
        if kind == AND:
            table = self.tables[left] & self.tables[right]
        elif kind == OR:
            table = self.tables[left] | self.tables[right]
        elif kind == NOT:
            table = self.full ^ self.tables[left]
        elif kind == LETTER:
            table = self.letter_tables[left]
        elif kind == NEVER:
            table = 0
        elif kind == ALWAYS:
            table = self.full
        else:
            table = self.full ^ self.tables[left] ^ self.tables[right]
        self.tables[place] = table
