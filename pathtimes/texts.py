"""What a call refuses of its texts, and the formulas of those that it takes."""

from pathtimes.formulas import Formulas, add_formula
from pathtimes.signs import NOWHERE, read_signs

LONGEST = 1024
MOST_TIMES = 6
TIME_SIGNS = ("X", "F", "G", "U", "R", "W")

NO_REFUSAL = 0
TOO_LONG = -1
TOO_MANY_TIMES = -3
# From which number the place of the first wrong byte is taken: in the first text, in the second.
WRONG_BYTE = (-10, -2000)


def read_texts(texts):
    """The refusal that is due, or NO_REFUSAL; and the signs of each text."""
    if max([len(text) for text in texts]) > LONGEST:
        return TOO_LONG, []
    found = []
    times = 0
    for text, wrong_byte in zip(texts, WRONG_BYTE):
        signs, wrong = read_signs(text)
        if wrong != NOWHERE:
            return wrong_byte - wrong, []
        found.append(signs)
        times += len([sign for sign in signs if sign in TIME_SIGNS])
    if times > MOST_TIMES:
        return TOO_MANY_TIMES, []
    return NO_REFUSAL, found


def understand(texts):
    """The refusal that is due, or NO_REFUSAL; the formulas; and the place of each text's formula among them."""
    refusal, found = read_texts(texts)
    formulas = Formulas()
    roots = [add_formula(formulas, signs) for signs in found]
    return refusal, formulas, roots
