"""Whether papers about measures are right."""

from fromsize.bases import are_axes, in_base, in_turn
from fromsize.check_written import is_writing
from fromsize.checks import is_within
from fromsize.measures import are_places, measure_of, measure_of_ties, need_measure
from fromsize.rises import are_kept_at
from fromsize.tie_sums import TieSum
from fromsize.turns import Steady, Turned, steady_factor
from fromsize.unchanged import Changed, Unchanged


def shows_unchanged(measure, value):
    """Whether a value is the right Unchanged or a right Changed of the measure."""
    need_measure(measure, "measure")
    if type(value) is Unchanged:
        return is_writing(value.total, measure.many, measure.size) and measure_of(value.total, measure.size) == measure
    return type(value) is Changed and is_change(measure, value)


def shows_steady(measure, value):
    """Whether a value is the right Steady or a right Turned of the measure."""
    need_measure(measure, "measure")
    if type(value) is Steady:
        return is_tie_writing(value.total, measure) and measure_of_ties(value.total, measure.size) == measure
    return type(value) is Turned and is_turning(measure, value)


def is_change(measure, paper):
    """Whether the units have another worth in the base."""
    most = measure.size - 1
    if not is_within(paper.row, 0, most) or not is_within(paper.other, 0, most) or paper.row == paper.other:
        return False
    if not are_places(paper.units, measure.size, measure.many):
        return False
    told = unit_tables(paper.units, measure.size)
    return measure.worth([in_base(table, paper.row, paper.other) for table in told]) != measure.worth(told)


def is_turning(measure, paper):
    """Whether the units, turned or mirrored, have another worth than a steady measure would have."""
    if not are_axes(paper.axes, measure.size) or not are_places(paper.units, measure.size, measure.many):
        return False
    told = unit_tables(paper.units, measure.size)
    due = steady_factor(measure, paper.axes) * measure.worth(told)
    return measure.worth([in_turn(table, paper.axes) for table in told]) != due


def is_tie_writing(value, measure):
    """Whether a value is a sum of kept ties that can have the measure, its weights not hanging on the size."""
    if not isinstance(value, TieSum) or value.ends != 2 * measure.many:
        return False
    return all([len(weight) == 1 and are_kept_at(row, measure.size) for weight, row in value.terms])


def unit_tables(units, size):
    """The units with 1 at these places, tables of this size."""
    line = range(size)
    return [[[1 if (place, at) == (row, column) else 0 for at in line] for place in line] for row, column in units]
