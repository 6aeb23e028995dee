"""Whether a formula is true of a row of moments, some of which come again and again."""

from pathtimes.formulas import NEXT, TIMES, UNTIL
from pathtimes.tables import CaseTables, mark_tables


class RoundRow:
    """As many moments as count says; behind the last one comes the one at back."""

    def __init__(self, count, back):
        self.count = count
        self.back = back

    def next_table(self, table):
        return (table >> 1) | ((table >> self.back & 1) << (self.count - 1))

    def until_table(self, left, right, at_last):
        """Where right is, or left is and the whole is at the next moment; at_last where left is there for ever."""
        value = at_last
        for moment in range(self.count - 1, self.back - 1, -1):
            value = (right >> moment & 1) | (left >> moment & value)
        # This is the value at back, and so behind the last moment: from there all moments are gone through once more.
        table = 0
        for moment in range(self.count - 1, -1, -1):
            value = (right >> moment & 1) | (left >> moment & value)
            table |= value << moment
        return table


def true_of_row(formulas, root, marks, back):
    """1 where the formula at root is true of the row with these marks, else 0."""
    row = RoundRow(len(marks), back)
    cases = CaseTables(formulas, mark_tables(formulas.letters(), marks), (1 << len(marks)) - 1)
    tables = cases.tables
    for place in cases.timed:
        kind, left, right = formulas.nodes[place]
        if kind == NEXT:
            tables[place] = row.next_table(tables[left])
        elif kind in TIMES:
            tables[place] = row.until_table(tables[left], tables[right], 0 if kind == UNTIL else 1)
        else:
            cases.fill_plain(place)
    return tables[root] & 1
