"""Rises of ties, and at which sizes ties are kept.

The functions that the document lists check what they are passed. Those below
them take what has been checked.
"""

from fromsize.checks import need_size
from fromsize.ties import all_ties, need_ends_many, need_ties


def tie_colours(ties):
    """The colours of all ends."""
    return end_colours(need_ties(ties, "ties"))


def longest_rise(ties):
    """The ends of a rise, no other one having more."""
    return rise_of(need_ties(ties, "ties"))


def ties_kept(ties, size):
    """Whether the ties are kept at this size."""
    told = need_ties(ties, "ties")
    need_size(size)
    return are_kept_at(told, size)


def kept_ties(ends, size):
    """All kept ties of so many ends, ascending."""
    need_ends_many(ends)
    need_size(size)
    return tuple([row for row in all_ties(ends) if are_kept_at(row, size)])


def end_colours(row):
    """The colours of all ends."""
    found = []
    for end, partner in enumerate(row):
        ahead = [found[other] + 1 for other in range(end) if row[other] < partner]
        found.append(max(ahead, default=0))
    return tuple(found)


def rise_of(row):
    """The ends of a longest rise."""
    told = end_colours(row)
    rise = [told.index(max(told))]
    while told[rise[-1]] > 0:
        end = rise[-1]
        before = [other for other in range(end) if row[other] < row[end] and told[other] == told[end] - 1]
        rise.append(before[0])
    return tuple(rise[::-1])


def are_kept_at(row, size):
    """Whether no rise of the ties has more ends than the size."""
    return max(end_colours(row)) < size
