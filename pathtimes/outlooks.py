"""What a moment may be together with what is told of the moments behind it."""

from pathtimes.formulas import NEXT, TIMES, UNLESS, UNTIL
from pathtimes.tables import CaseTables


class OutlookTables(CaseTables):
    """The tables of some formulas under one outlook after another.

    An outlook has a bit for each of the formulas' X, U and W: of X f, whether f is at the next moment; of f U g and
    f W g, whether that is itself at the next moment. With it and a moment's letters all is known at the moment, and
    so is the outlook of the moment before.

    Outlooks could tell for ever that f U g is, and g never come; or that f W g isn't, and f never end. Each U and W
    wishes that this doesn't happen: its wish is granted at a moment where it isn't put off to the next one.
    """

    def __init__(self, formulas, letter_tables, full):
        CaseTables.__init__(self, formulas, letter_tables, full)
        self.times = [place for place, node in enumerate(formulas.nodes) if node[0] in TIMES]
        self.outlooks = 1 << len(self.times)
        self.untils = self.bits_of(UNTIL)
        self.unlesses = self.bits_of(UNLESS)
        self.wishes = self.untils | self.unlesses

    def bits_of(self, kind):
        """The bits of an outlook that stand for nodes of this kind."""
        bits = 0
        for bit, place in enumerate(self.times):
            if self.nodes[place][0] == kind:
                bits |= 1 << bit
        return bits

    def look(self, outlook):
        """Fill in the tables under this outlook."""
        for place in self.timed:
            kind, left, right = self.nodes[place]
            if kind in TIMES:
                self.tables[place] = self.time_table(kind, left, right, outlook & 1)
                outlook = outlook >> 1
            else:
                self.fill_plain(place)

    def time_table(self, kind, left, right, told):
        if kind == NEXT:
            return self.full * told
        if told == 0:
            return self.tables[right]
        return self.tables[right] | self.tables[left]

    def before_tables(self):
        """For each bit of an outlook the cases in which the moment before has it."""
        found = []
        for place in self.times:
            kind, left, right = self.nodes[place]
            found.append(self.tables[left if kind == NEXT else place])
        return found

    def granted_tables(self):
        """For each bit of an outlook the cases in which its wish is granted, none where there's no wish."""
        found = []
        for place in self.times:
            kind, left, right = self.nodes[place]
            if kind == UNTIL:
                found.append((self.full ^ self.tables[place]) | self.tables[right])
            elif kind == UNLESS:
                found.append(self.tables[place] | (self.full ^ self.tables[left]))
            else:
                found.append(0)
        return found

    def put_off(self, before, outlook):
        """The bits of which the wish may be put off between these two outlooks: claimed or denied in both."""
        return (before & outlook & self.untils) | (self.unlesses & ~(before | outlook))
