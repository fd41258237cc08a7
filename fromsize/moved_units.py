"""Units that are put in a base, turned or mirrored, and what a measure is worth for them."""

from fromsize.bases import turn_parts
from fromsize.measures import need_few_entries, need_measure

MOST_SEARCHED = 100


def need_searched(measure):
    """Refuse what is no measure, and one with too many entries for a search."""
    need_measure(measure, "measure")
    need_few_entries(measure.size, measure.many, MOST_SEARCHED)


def base_parts(size, row, other):
    """For each place in a table of this size the units that have an entry there in the base, behind this entry."""
    found = {}
    for place in all_places(size):
        rows = [(1, place[0])] + ([(1, other)] if place[0] == row else [])
        columns = [(1, place[1])] + ([(-1, row)] if place[1] == other else [])
        found[place] = crossed(rows, columns)
    return found


def turned_parts(size, axes):
    """For each place in a table of this size the units that have an entry there when turned, behind this entry."""
    return {(row, column): crossed(turn_parts(row, axes), turn_parts(column, axes)) for row, column in all_places(size)}


def all_places(size):
    """All places in a table of this size."""
    return [(row, column) for row in range(size) for column in range(size)]


def crossed(rows, columns):
    """Each of these rows with each of these columns, the numbers ahead of them multiplied."""
    return [(number * more, (row, column)) for number, row in rows for more, column in columns]


def worths_moved(measure, parts):
    """What the measure is worth for units that are moved: a dict from lists of units to the worths.

    One table after the other: an entry that a list has there stands for the units that have one there.
    """
    worths = weights_by_places(measure)
    for at in range(measure.many):
        found = {}
        for places, worth in worths.items():
            for number, unit in parts[places[at]]:
                units = places[:at] + (unit,) + places[at + 1:]
                found[units] = found.get(units, 0) + number * worth
        worths = found
    return worths


def weights_by_places(measure):
    """The weights of a measure, a dict from its lists."""
    return {places: weight for weight, places in measure.terms}


def first_unlike(one, other):
    """The first list of units for which two dicts tell unlike worths, 0 where they have none; None if there is none."""
    unlike = [units for units in list(one) + list(other) if one.get(units, 0) != other.get(units, 0)]
    return min(unlike, default=None)
