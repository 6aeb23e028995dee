"""The calls that ask something of formulas: check, path, word, same."""

from pathtimes.proving import true_alike, true_of_all_paths
from pathtimes.rows import true_of_row
from pathtimes.texts import NO_REFUSAL, understand

MOST_MOMENTS = 4096
WRONG_ROUND = -2
NO_PATH = -4


def can_go_round(count, u):
    """Whether there may be so many moments, and the one at u may come behind the last."""
    return 0 <= u < count <= MOST_MOMENTS


def is_path(system, states, u):
    """Whether the states, and those from u on again and again, are a path of the system."""
    # A number that is no state's needs no question of its own: it's no start, and no arc leads to it.
    if system.starts >> states[0] & 1 == 0:
        return False
    for state, later in zip(states, states[1:] + [states[u]]):
        if system.arcs[state] >> later & 1 == 0:
            return False
    return True


def check(system, text):
    refusal, formulas, roots = understand([text])
    if refusal != NO_REFUSAL:
        return refusal
    return true_of_all_paths(system, formulas, roots[0])


def path(system, u, states, text):
    refusal, formulas, roots = understand([text])
    if refusal != NO_REFUSAL:
        return refusal
    if not can_go_round(len(states), u):
        return WRONG_ROUND
    if not is_path(system, states, u):
        return NO_PATH
    marks = [system.marks[state] for state in states]
    return true_of_row(formulas, roots[0], marks, u)


def word(u, moments, text):
    refusal, formulas, roots = understand([text])
    if refusal != NO_REFUSAL:
        return refusal
    if not can_go_round(len(moments), u):
        return WRONG_ROUND
    return true_of_row(formulas, roots[0], moments, u)


def same(a, b):
    refusal, formulas, roots = understand([a, b])
    if refusal != NO_REFUSAL:
        return refusal
    return true_alike(formulas, roots[0], roots[1])
