"""Class sums, and which sums commute."""

from fromsize.checks import is_numbers, need_size
from fromsize.errors import BadNumber, Misfit
from fromsize.kept import need_wires
from fromsize.papers import Denial, Paper
from fromsize.steps import taken_out
from fromsize.sums import Sum, need_sum
from fromsize.wirings import all_wirings, rounds_of
from fromsize.written import latest_settings


class Commutes(Paper):
    """A sum commutes at a size: each difference with a neighbour exchange is what its steps stand for."""

    def __init__(self, steps):
        Paper.__init__(self, "commutes", steps)
        self.steps = self.parts[0]


class Clash(Denial):
    """A sum does not commute: the difference at this top leads these settings with a number other than 0."""

    def __init__(self, top, tops, bottoms):
        Denial.__init__(self, "clash", top, tops, bottoms)
        self.top = self.parts[0]
        self.tops = self.parts[1]
        self.bottoms = self.parts[2]


def class_sum(wires, lengths):
    """The sum of all wirings of so many wires with just these lengths."""
    need_wires(wires)
    if not is_numbers(lengths) or not all([length >= 1 for length in lengths]):
        raise BadNumber("lengths")
    if sum(lengths) != wires:
        raise Misfit("lengths")
    told = sorted(lengths)
    return Sum(wires, [(1, row) for row in all_wirings(wires) if lengths_of(row) == told])


def classes_many(wires, size):
    """How many of the class sums of so many wires are independent at this size."""
    need_wires(wires)
    need_size(size)
    return len([1 for lengths in all_lengths(wires, wires) if len(lengths) <= size])


def commutes(total, size):
    """Whether the sum commutes at this size, and what shows it."""
    need_sum(total, "total")
    need_size(size)
    found = []
    for top in range(total.wires - 1):
        writing, steps = taken_out(difference(total, top), size)
        if len(writing) > 0:
            tops, bottoms = latest_settings(writing)
            return Clash(top, tops, bottoms)
        found.append(steps)
    return Commutes(found)


def lengths_of(row):
    """The lengths of a wiring, ascending."""
    return sorted([len(walk) for walk in rounds_of(row)])


def all_lengths(wires, most):
    """All rows of integers from 1 to most, descending, that add up to wires."""
    if wires == 0:
        return [()]
    firsts = range(1, min(wires, most) + 1)
    return [(first,) + rest for first in firsts for rest in all_lengths(wires - first, first)]


def difference(total, top):
    """First the sum, then the neighbour exchange at this top, less first the exchange, then the sum."""
    exchange = list(range(total.wires))
    exchange[top] = top + 1
    exchange[top + 1] = top
    swap = Sum.of(exchange)
    return total * swap - swap * total
