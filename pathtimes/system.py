"""The calls on one system, and what they answer."""

from pathtimes.asking import check, path, same, word
from pathtimes.reading import read_calls
from pathtimes.states import StateSystem

BEGIN = 0
MARK = 1
ARC = 2
START = 3
CHECK = 4
PATH = 5
WORD = 6


def build(system, number, numbers):
    """Carry out a call that changes the system, and give back the number that it answers."""
    if number == BEGIN:
        return system.begin(numbers[0])
    if number == MARK:
        return system.mark(numbers[0], numbers[1])
    if number == ARC:
        return system.arc(numbers[0], numbers[1], numbers[2])
    return system.start(numbers[0], numbers[1])


def ask(system, number, numbers, rows):
    """Carry out a call that asks something of formulas, and give back the number that it answers."""
    if number == CHECK:
        return check(system, rows[0])
    if number == PATH:
        return path(system, numbers[0], rows[0], rows[1])
    if number == WORD:
        return word(numbers[0], rows[0], rows[1])
    return same(rows[0], rows[1])


def answers(calls):
    """For each call of the list, in order: how many numbers it answers, and these."""
    system = StateSystem()
    told = []
    for number, numbers, rows in read_calls(calls):
        told.append(1)
        if number <= START:
            told.append(build(system, number, numbers))
        else:
            told.append(ask(system, number, numbers, rows))
    return told
