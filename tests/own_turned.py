"""What the tests work out of rules with letters turned over by themselves."""

from fromsize.formulas import Formula
from tests.own_rules import is_listed, own_lots
from tests.own_ties import drawn_ends, drawn_ties, own_dealt, own_stood_ties
from tests.test_check_ties import is_step
from tests.test_tied import own_tie_sum


def tied_walk(row, first):
    """The wires from this one on, round: pairs of a wire and whether it is gone through the other way."""
    last = len(row) - 1
    walk, behind = [(first, False)], first
    while True:
        end = row[behind]
        if end == last - first:
            return walk
        wire, turned = (end, True) if end < len(row) // 2 else (last - end, False)
        walk.append((wire, turned))
        behind = last - wire if turned else wire


def tied_term(weight, row, letters, is_table):
    """The term of ties with letters on their wires, the mark on the last one of a table formula."""
    half = len(row) // 2
    word, traces, met = None, [], []
    for first in ([half - 1] if is_table else []) + list(range(half)):
        if first not in met:
            walk = tied_walk(row, first)
            met += [wire for wire, _ in walk]
            strings = [letters[wire] + "'" * turned for wire, turned in walk if not (is_table and wire == half - 1)]
            if is_table and first == half - 1:
                word = strings
            else:
                traces.append(strings)
    return weight, traces, word


def tied_formula(told, letters, is_table):
    """The formula of a sum of ties, a dict from ties to integers."""
    return Formula(is_table, [tied_term(weight, row, letters, is_table) for row, weight in told.items()])


def drawn_tied_rule(draw, size, is_table, parts=2, letters="abc"):
    """A rule of the size with a term at least, a sum of crossings of ties with drawn letters on them."""
    most = 5
    while True:
        total = Formula(is_table, [])
        for _ in range(parts):
            wires = draw.randint(size + 1, most)
            row = drawn_ties(draw, 2 * wires)
            told = own_dealt(row, drawn_ends(draw, row, size + 1))
            number = draw.choice([-2, -1, 1, 3])
            put = [draw.choice(letters) for _ in range(wires - is_table)]
            total = total + tied_formula({ties: number * sign for ties, sign in told.items()}, put, is_table)
        if total.terms:
            return total


def is_own_made_tied(formula, size, lists):
    """Whether lists of steps stand for the ties of the lots of a formula, in their order."""
    told = own_lots(formula)
    if not is_listed(lists) or len(lists) != len(told):
        return False
    for (row, terms), steps in zip(told, lists):
        ends = 2 * (len(row) + formula.is_table)
        if ends == 0 or not is_listed(steps) or len(steps) > 945:
            return False
        fixed = [tuple(tuple(part) if is_listed(part) else part for part in step) if is_listed(step) else () for step in steps]
        if not all(is_step(step, ends, size) for step in fixed):
            return False
        if own_stood_ties(fixed) != own_tie_sum(Formula(formula.is_table, terms), row):
            return False
    return True
