"""Which measures are the same in every base: those that come of sums of wirings."""

from fromsize.falls import both_settings
from fromsize.kept import kept
from fromsize.measures import measure_of
from fromsize.moved_units import base_parts, first_unlike, need_searched, weights_by_places, worths_moved
from fromsize.papers import Denial, Paper
from fromsize.sums import Sum
from fromsize.wirings import led_to


class Unchanged(Paper):
    """A measure is unchanged: the sum of kept wirings of which it comes."""

    def __init__(self, total):
        Paper.__init__(self, "unchanged", total)
        self.total = self.parts[0]


class Changed(Denial):
    """A measure is changed: a base, and units that have another worth in it."""

    def __init__(self, row, other, units):
        Denial.__init__(self, "changed", row, other, units)
        self.row = self.parts[0]
        self.other = self.parts[1]
        self.units = self.parts[2]


def unchanged(measure):
    """Whether the measure is the same in every base, and what shows it."""
    need_searched(measure)
    total = sum_told(measure)
    if measure_of(total, measure.size) == measure:
        return Unchanged(total)
    weights = weights_by_places(measure)
    for row, other in all_bases(measure.size):
        units = first_unlike(weights, worths_moved(measure, base_parts(measure.size, row, other)))
        if units is not None:
            return Changed(row, other, units)
    # Not reached: what no base changes comes of a sum.
    return None


def all_bases(size):
    """All bases of tables of this size."""
    return [(row, other) for row in range(size) for other in range(size) if row != other]


def sum_told(measure):
    """The sum of kept wirings of which the measure comes, if it comes of one.

    The list of the two settings of a kept wiring is weighed by it and by later ones alone.
    """
    weights = weights_by_places(measure)
    pairs = []
    for row in kept(measure.many, measure.size)[::-1]:
        tops, bottoms = both_settings(row)
        later = sum([weight for weight, other in pairs if led_to(other, tops) == bottoms])
        pairs.append((weights.get(tuple(zip(bottoms, tops)), 0) - later, row))
    return Sum(measure.many, pairs)
