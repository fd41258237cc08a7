"""Writings of sums by wirings that are kept at a size."""

from fromsize.checks import need_size
from fromsize.falls import both_settings
from fromsize.papers import Denial, Paper
from fromsize.steps import taken_out
from fromsize.sums import need_sum


class Written(Paper):
    """The writing of a sum at a size, and steps by which the two differ."""

    def __init__(self, writing, steps):
        Paper.__init__(self, "written", writing, steps)
        self.writing = self.parts[0]
        self.steps = self.parts[1]


class Nothing(Paper):
    """A sum is nothing at a size: it is what these steps stand for."""

    def __init__(self, steps):
        Paper.__init__(self, "nothing", steps)
        self.steps = self.parts[0]


class Something(Denial):
    """A sum is something at a size: it leads these settings with a number other than 0."""

    def __init__(self, tops, bottoms):
        Denial.__init__(self, "something", tops, bottoms)
        self.tops = self.parts[0]
        self.bottoms = self.parts[1]


def written(total, size):
    """The writing of the sum at this size."""
    return written_by(total, size).writing


def written_by(total, size):
    """The writing of the sum at this size, with steps by which the two differ."""
    need_sum(total, "total")
    need_size(size)
    writing, steps = taken_out(total, size)
    return Written(writing, steps)


def judged(total, size):
    """Whether the sum is nothing or something at this size, and what shows it."""
    told = written_by(total, size)
    if len(told.writing) == 0:
        return Nothing(told.steps)
    tops, bottoms = latest_settings(told.writing)
    return Something(tops, bottoms)


def least_size(total):
    """The least size at which the sum is something; None for one without wirings."""
    need_sum(total, "total")
    # At a size as great as the number of wires each sum is its own writing.
    for size in range(1, total.wires + 1):
        if len(written(total, size)) > 0:
            return size
    return None


def latest_settings(writing):
    """The two settings of the latest wiring, which no other kept wiring of the writing leads."""
    return both_settings(writing.terms[-1][1])
