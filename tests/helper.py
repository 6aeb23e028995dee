"""What the tests share: how calls are written, and slow ways of working answers out that follow the document's words.

A formula is a tuple here: ("a",), ("0",), ("1",), a sign of "!XFG" with one formula, or a sign that joins with two.
"""

import itertools
import re

from pathtimes.system import answers

LOWEST = -2147483648
HIGHEST = 2147483647
TIME_SIGNS = "XFGURW"


def text_bytes(text):
    return list(text.encode("latin-1")) if isinstance(text, str) else list(text)


def row(numbers):
    return [len(numbers)] + list(numbers)


def check_call(text):
    return [4] + row(text_bytes(text))


def path_call(u, states, text):
    return [5, u] + row(states) + row(text_bytes(text))


def word_call(u, moments, text):
    return [6, u] + row(moments) + row(text_bytes(text))


def same_call(a, b):
    return [7] + row(text_bytes(a)) + row(text_bytes(b))


def system_calls(marks, arcs, starts):
    """The calls that make a system with these marks, arcs as pairs, and starts."""
    calls = [0, len(marks)]
    for state, mark in enumerate(marks):
        calls += [1, state, mark]
    for a, b in arcs:
        calls += [2, a, b, 1]
    for state in starts:
        calls += [3, state, 1]
    return calls


def counted(numbers):
    """The numbers, each with its count of 1 ahead of it."""
    told = []
    for number in numbers:
        told.extend([1, number])
    return told


def last_answer(calls):
    return answers(calls)[-1]


def check_of(text, system=()):
    return last_answer(list(system) + check_call(text))


def path_of(system, u, states, text):
    return last_answer(list(system) + path_call(u, states, text))


def word_of(u, moments, text):
    return last_answer(word_call(u, moments, text))


def same_of(a, b):
    return last_answer(same_call(a, b))


class Untouchable(list):
    """A list that does not let itself be changed, not for a while either."""

    def refuse(self, *given, **named):
        raise AssertionError("what was handed in is changed")

    append = extend = insert = pop = remove = clear = sort = reverse = refuse
    __setitem__ = __delitem__ = __iadd__ = __imul__ = refuse


# ---- formulas as tuples, and their texts


def bracketed(tree):
    """A text of the formula in which every joining stands in brackets."""
    if len(tree) == 1:
        return tree[0]
    if len(tree) == 2:
        return tree[0] + bracketed(tree[1])
    return "(" + bracketed(tree[1]) + tree[0] + bracketed(tree[2]) + ")"


LEVELS = {"<->": 1, "->": 2, "|": 3, "&": 4, "U": 5, "R": 5, "W": 5}


def short_text(tree, least=1):
    """A text of the formula with no more brackets than the grammar asks for, where a formula of this level may stand."""
    if len(tree) == 1:
        return tree[0]
    if len(tree) == 2:
        return tree[0] + short_text(tree[1], 6)
    level = LEVELS[tree[0]]
    from_the_left = tree[0] in ("<->", "|", "&")
    left = short_text(tree[1], level if from_the_left else level + 1)
    right = short_text(tree[2], level + 1 if from_the_left else level)
    text = left + tree[0] + right
    return "(" + text + ")" if level < least else text


def random_tree(source, size, times, letters):
    """A formula of about this size, with at most so many of X F G U R W."""
    left_over = [times]

    def grow(room):
        if room <= 1:
            return (source.choice(letters if source.random() < 0.9 else "01"),)
        signs = ["!", "&", "|", "->", "<->"] + (list(TIME_SIGNS) * 2 if left_over[0] > 0 else [])
        sign = source.choice(signs)
        if sign in TIME_SIGNS:
            left_over[0] -= 1
        if sign in "!XFG":
            return (sign, grow(room - 1))
        part = source.randrange(1, room) if room > 2 else 1
        return (sign, grow(part), grow(room - part))

    return grow(size)


class SlowReader:
    """The grammar word by word, each of its lines a method."""

    def __init__(self, text):
        if re.fullmatch(r"(?: |<->|->|[!XFG()a-p01&|URW])*", text) is None:
            raise ValueError("not made of signs")
        self.signs = re.findall(r"<->|->|[!XFG()a-p01&|URW]", text)
        self.place = 0

    def sees(self, signs):
        return self.place < len(self.signs) and self.signs[self.place] in signs

    def take(self, signs):
        if not self.sees(signs):
            raise ValueError("another sign is due")
        self.place += 1
        return self.signs[self.place - 1]

    def formula(self):
        tree = self.implies()
        while self.sees(["<->"]):
            tree = (self.take(["<->"]), tree, self.implies())
        return tree

    def implies(self):
        tree = self.either()
        return (self.take(["->"]), tree, self.implies()) if self.sees(["->"]) else tree

    def either(self):
        tree = self.both()
        while self.sees(["|"]):
            tree = (self.take(["|"]), tree, self.both())
        return tree

    def both(self):
        tree = self.while_formula()
        while self.sees(["&"]):
            tree = (self.take(["&"]), tree, self.while_formula())
        return tree

    def while_formula(self):
        tree = self.one()
        return (self.take("URW"), tree, self.while_formula()) if self.sees("URW") else tree

    def one(self):
        if self.sees("!XFG"):
            return (self.take("!XFG"), self.one())
        if self.sees("("):
            self.take("(")
            tree = self.formula()
            self.take(")")
            return tree
        return (self.take("abcdefghijklmnop01"),)


def slow_read(text):
    """The formula of the text, None where it is no formula."""
    try:
        reader = SlowReader(text)
        tree = reader.formula()
    except ValueError:
        return None
    return tree if reader.place == len(reader.signs) else None


def may_begin_a_formula(text):
    """Whether something can be put behind the text that makes it a formula."""
    endings = ["", "a", ">a", "->a"]
    return any(
        slow_read(text + ending + ")" * brackets) is not None
        for ending in endings for brackets in range(text.count("(") + 1)
    )


def slow_wrong_place(text):
    """The place of the first wrong byte, None where the text is a formula."""
    for place in range(len(text)):
        if not may_begin_a_formula(text[:place + 1]):
            return place
    return None if slow_read(text) is not None else len(text)


# ---- truth on a row, as the words say it


class SlowRow:
    """Moments with their propositions; behind the last one those from u on come again and again."""

    def __init__(self, moments, u):
        self.moments = moments
        self.u = u
        self.known = {}

    def from_here_on(self, moment):
        """This and all later moments, each once."""
        found = []
        while moment not in found:
            found.append(moment)
            moment = self.next_of(moment)
        return found

    def next_of(self, moment):
        return moment + 1 if moment + 1 < len(self.moments) else self.u

    def is_true(self, tree, moment=0):
        if (tree, moment) not in self.known:
            self.known[tree, moment] = self.work_out(tree, moment)
        return self.known[tree, moment]

    def until(self, f, g, moment):
        for later in self.from_here_on(moment):
            if self.is_true(g, later):
                return True
            if not self.is_true(f, later):
                return False
        return False

    def work_out(self, tree, moment):
        sign = tree[0]
        if len(tree) == 1:
            return sign == "1" or sign != "0" and bool(self.moments[moment] >> ord(sign) - ord("a") & 1)
        f = tree[1]
        if sign == "!":
            return not self.is_true(f, moment)
        if sign == "X":
            return self.is_true(f, self.next_of(moment))
        if sign == "F":
            return self.is_true(("U", ("1",), f), moment)
        if sign == "G":
            return all(self.is_true(f, later) for later in self.from_here_on(moment))
        g = tree[2]
        if sign == "U":
            return self.until(f, g, moment)
        if sign == "W":
            return self.is_true(("|", ("U", f, g), ("G", f)), moment)
        if sign == "R":
            return self.is_true(("W", g, ("&", f, g)), moment)
        left, right = self.is_true(f, moment), self.is_true(g, moment)
        return {"&": left and right, "|": left or right, "->": not left or right, "<->": left == right}[sign]


def slow_word(u, moments, tree):
    return int(SlowRow(moments, u).is_true(tree))


# ---- truth on all paths


def slow_lassos(marks, arcs, starts, longest):
    """All paths of the system that go round after so many states at most: tuples of the states and of u."""
    follows = {state: [b for a, b in sorted(set(arcs)) if a == state] for state in range(len(marks))}
    paths = [[state] for state in sorted(set(starts))]
    while paths:
        longer = []
        for states in paths:
            for u, state in enumerate(states):
                if state in follows[states[-1]]:
                    yield states, u
            if len(states) < longest:
                longer.extend(states + [state] for state in follows[states[-1]])
        paths = longer


def basic(tree):
    """The formula told by letters, 1, ! & X U alone."""
    if len(tree) == 1:
        return ("!", ("1",)) if tree == ("0",) else tree
    sign, f = tree[0], tree[1]
    if sign in "!X":
        return (sign, basic(f))
    if sign == "F":
        return ("U", ("1",), basic(f))
    if sign == "G":
        return ("!", ("U", ("1",), ("!", basic(f))))
    g = tree[2]
    if sign in "&U":
        return (sign, basic(f), basic(g))
    if sign == "|":
        return ("!", ("&", ("!", basic(f)), ("!", basic(g))))
    if sign == "->":
        return basic(("|", ("!", f), g))
    if sign == "<->":
        return basic(("&", ("->", f, g), ("->", g, f)))
    if sign == "W":
        return basic(("|", ("U", f, g), ("G", f)))
    return basic(("W", g, ("&", f, g)))


def claims_in(tree):
    """The different X and U within a basic formula."""
    found = []
    for part in tree[1:]:
        found.extend(claim for claim in claims_in(part) if claim not in found)
    return found + [tree] if tree[0] in "XU" and tree not in found else found


def true_with(tree, mark, claimed):
    """Whether a basic formula is true at a moment with this mark and these X and U claimed."""
    if tree[0] in "XU":
        return tree in claimed
    if tree[0] == "!":
        return not true_with(tree[1], mark, claimed)
    if tree[0] == "&":
        return true_with(tree[1], mark, claimed) and true_with(tree[2], mark, claimed)
    return tree == ("1",) or bool(mark >> ord(tree[0]) - ord("a") & 1)


def fits(claims, knot, later, marks):
    """Whether what is claimed at a knot fits to what is claimed at the later one."""
    for claim in claims:
        mark, claimed = marks[knot[0]], knot[1]
        if claim[0] == "X":
            due = true_with(claim[1], marks[later[0]], later[1])
        else:
            due = true_with(claim[2], mark, claimed) or true_with(claim[1], mark, claimed) and claim in later[1]
        if (claim in claimed) != due:
            return False
    return True


def reached(follows, start):
    """The knots that come behind the start, in one step or more."""
    found, waiting = set(), list(follows[start])
    while waiting:
        knot = waiting.pop()
        if knot not in found:
            found.add(knot)
            waiting.extend(follows[knot])
    return found


def slow_check(marks, arcs, starts, tree):
    """Whether the formula is true of all paths: knots of a state and claims, and rounds on which each U comes true."""
    wrong = ("!", basic(tree))
    claims = claims_in(wrong)
    choices = [frozenset(itertools.compress(claims, bits)) for bits in itertools.product((0, 1), repeat=len(claims))]
    knots = [(state, claimed) for state in range(len(marks)) for claimed in choices]
    follows = {
        knot: [(b, claimed) for a, b in set(arcs) if a == knot[0] for claimed in choices
               if fits(claims, knot, (b, claimed), marks)]
        for knot in knots
    }
    behind = {knot: reached(follows, knot) for knot in knots}
    for start in knots:
        if start[0] not in starts or not true_with(wrong, marks[start[0]], start[1]):
            continue
        for knot in behind[start] | {start}:
            together = [other for other in behind[knot] if knot in behind[other]]
            if together and all(
                any(claim not in other[1] or true_with(claim[2], marks[other[0]], other[1]) for other in together)
                for claim in claims if claim[0] == "U"
            ):
                return 0
    return 1


def slow_same(a, b, letters):
    """Whether two formulas over these letters, the first of a to p, are true of the same rows."""
    marks = list(range(1 << letters))
    arcs = [(mark, other) for mark in marks for other in marks]
    return slow_check(marks, arcs, marks, ("<->", a, b))
