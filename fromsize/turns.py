"""Which measures are steady when tables are turned and mirrored: those that come of sums of ties."""

from fromsize.measures import measure_of_ties
from fromsize.moved_units import first_unlike, need_searched, turned_parts, weights_by_places, worths_moved
from fromsize.papers import Denial, Paper
from fromsize.rises import end_colours, kept_ties
from fromsize.tie_sums import TieSum, take


class Steady(Paper):
    """A measure is steady: the sum of kept ties of which it comes."""

    def __init__(self, total):
        Paper.__init__(self, "steady", total)
        self.total = self.parts[0]


class Turned(Denial):
    """A measure is not steady: axes, and units that have another worth turned or mirrored by them than they should."""

    def __init__(self, axes, units):
        Denial.__init__(self, "turned", axes, units)
        self.axes = self.parts[0]
        self.units = self.parts[1]


def steady(measure):
    """Whether the measure is steady, and what shows it."""
    need_searched(measure)
    total = ties_told(measure)
    if measure_of_ties(total, measure.size) == measure:
        return Steady(total)
    for axes in all_axes(measure.size):
        factor = steady_factor(measure, axes)
        due = {places: factor * weight for weight, places in measure.terms}
        units = first_unlike(due, worths_moved(measure, turned_parts(measure.size, axes)))
        if units is not None:
            return Turned(axes, units)
    # Not reached: what no turn and no mirror changes comes of a sum.
    return None


def ties_told(measure):
    """The sum of kept ties of which the measure comes, if it comes of one.

    The list of the colours of kept ties is weighed by them and by earlier ones alone.
    """
    weights = weights_by_places(measure)
    half = measure.many
    pairs = []
    for row in kept_ties(2 * half, measure.size):
        colours = end_colours(row)
        earlier = sum([weight for weight, other in pairs if take(other, colours)])
        places = tuple(zip(colours[::-1][:half], colours[:half]))
        pairs.append((weights.get(places, 0) - earlier, row))
    return TieSum(2 * half, [((weight,), row) for weight, row in pairs])


def all_axes(size):
    """The axes of all mirrors of tables of this size, then those of all turns."""
    mirrors = [(one,) for one in range(size)]
    return mirrors + [(one, other) for other in range(size) for one in range(other)]


def steady_factor(measure, axes):
    """How many times its worth a steady measure has for tables that are all turned, or mirrored."""
    found = 1
    if len(axes) == 2:
        for _ in range(measure.many):
            found = found * 25
    return found
