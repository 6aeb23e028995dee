"""Whether a formula is true of all paths of a system, and whether two are true of the same rows."""

from pathtimes.formulas import ALIKE
from pathtimes.outlooks import OutlookTables
from pathtimes.rounds import RoundSearch
from pathtimes.tables import CaseParts, bit_places, choice_tables, mark_tables


def empty_lists(count):
    return [[] for turn in range(count)]


def any_round(search, starts):
    for start in starts:
        if search.finds_round(start):
            return True
    return False


def add_state_steps(steps, tables, outlook):
    """For each state put the step to it with this outlook behind the others."""
    parts = CaseParts(tables.before_tables() + tables.granted_tables(), tables.full)
    part = parts.next_part()
    while part is not None:
        number, states = part
        step = (outlook, number // tables.outlooks)
        for state in bit_places(states):
            steps[state][number % tables.outlooks].append(step)
        part = parts.next_part()


def true_of_all_paths(system, formulas, root):
    """1 where no path of the system is one of which the formula at root is false, else 0."""
    full = (1 << system.size) - 1
    tables = OutlookTables(formulas, mark_tables(formulas.letters(), system.marks), full)
    steps = [empty_lists(tables.outlooks) for state in range(system.size)]
    starts = []
    for outlook in range(tables.outlooks):
        tables.look(outlook)
        for state in bit_places(system.starts & (full ^ tables.tables[root])):
            starts.append(state * tables.outlooks + outlook)
        add_state_steps(steps, tables, outlook)
    arcs = [bit_places(bits) for bits in system.arcs]
    search = RoundSearch(arcs, steps, tables.outlooks, tables.wishes)
    return 0 if any_round(search, starts) else 1


def add_choice_steps(steps, tables, outlook):
    """Put the steps with this outlook, each for all choices of letters that it can be made with, behind the others."""
    granted_tables = tables.granted_tables()
    parts = CaseParts(tables.before_tables(), tables.full)
    part = parts.next_part()
    while part is not None:
        before, choices = part
        granted = tables.wishes
        for bit in bit_places(tables.put_off(before, outlook)):
            if choices & granted_tables[bit] == 0:
                granted ^= 1 << bit
        steps[before].append((outlook, granted))
        part = parts.next_part()


def true_alike(formulas, left, right):
    """1 where no row is one of which only one of the formulas at left and right is true, else 0."""
    root = formulas.made_of(ALIKE, left, right)
    letters = formulas.letters()
    full = (1 << (1 << len(letters))) - 1
    tables = OutlookTables(formulas, choice_tables(letters), full)
    steps = empty_lists(tables.outlooks)
    starts = []
    for outlook in range(tables.outlooks):
        tables.look(outlook)
        if tables.tables[root] != full:
            starts.append(outlook)
        add_choice_steps(steps, tables, outlook)
    # Every choice of letters may come behind every other: one place is enough, with an arc to itself.
    search = RoundSearch([[0]], [steps], tables.outlooks, tables.wishes)
    return 0 if any_round(search, starts) else 1
