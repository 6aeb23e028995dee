"""The calls on one system, and what they answer."""

from pathtimes.reading import read_calls
from pathtimes.states import StateSystem

BEGIN = 0
MARK = 1
ARC = 2
START = 3


def perform(system, number, numbers):
    """Carry out one call on the system, and give back the number that it answers."""
    if number == BEGIN:
        return system.begin(numbers[0])
    if number == MARK:
        return system.mark(numbers[0], numbers[1])
    if number == ARC:
        return system.arc(numbers[0], numbers[1], numbers[2])
    if number == START:
        return system.start(numbers[0], numbers[1])
    # A made-up number could be taken for an answer, so a call that isn't built stops everything.
    raise NotImplementedError(f"call {number} is not built yet")


def answers(calls):
    """For each call of the list, in order: how many numbers it answers, and these."""
    system = StateSystem()
    told = []
    for number, numbers, rows in read_calls(calls):
        told.append(1)
        told.append(perform(system, number, numbers))
    return told
