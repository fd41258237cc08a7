"""Rises of ties, and at which sizes ties are kept.

The functions that the document lists check what they are passed. Those below
them take what has been checked.
"""

from fromsize.checks import need_size
from fromsize.ties import need_ends_many, need_ties


def tie_colours(ties):
    """The colours of all ends."""
    return end_colours(need_ties(ties, "ties"))


def longest_rise(ties):
    """The ends of a rise, no other one having more."""
    return rise_of(need_ties(ties, "ties"))


def ties_kept(ties, size):
    """Whether the ties are kept at this size."""
    told = need_ties(ties, "ties")
    need_size(size)
    return are_kept_at(told, size)


def kept_ties(ends, size):
    """All kept ties of so many ends, ascending."""
    need_ends_many(ends)
    need_size(size)
    rows = [()]
    for many in range(2, ends + 1, 2):
        rows = put_around(rows, many, size)
    return tuple(rows)


def end_colours(row):
    """The colours of all ends."""
    found = []
    for end, partner in enumerate(row):
        ahead = [found[other] + 1 for other in range(end) if row[other] < partner]
        found.append(max(ahead, default=0))
    return tuple(found)


def rise_of(row):
    """The ends of a longest rise."""
    told = end_colours(row)
    rise = [told.index(max(told))]
    while told[rise[-1]] > 0:
        end = rise[-1]
        before = [other for other in range(end) if row[other] < row[end] and told[other] == told[end] - 1]
        rise.append(before[0])
    return tuple(rise[::-1])


def are_kept_at(row, size):
    """Whether no rise of the ties has more ends than the size."""
    return rise_beyond(row, size) == ()


def rise_beyond(row, size):
    """A rise of an end more than the size; () if the ties are kept at this size.

    Only ends that come ahead of their partners are asked for. Partners have one
    colour, so such an end is the last one of some longest rise; and where an end
    before it comes behind its own partner, this partner may stand for it there.
    """
    # Of the rises of so many ends the one whose last end has the least partner, and this partner.
    rises = []
    lasts = []
    found = ()
    for end, partner in enumerate(row):
        if end < partner:
            many = 0
            for last in lasts:
                if last < partner:
                    many += 1
            rise = rises[many - 1] + (end,) if many > 0 else (end,)
            rises[many:many + 1] = [rise]
            lasts[many:many + 1] = [partner]
            # With a great last partner a crossing has later ties, and fewer are taken out one by one.
            if many >= size and (found == () or row[found[-1]] < partner):
                found = rise[:size] + (end,)
    return found


def put_around(rows, ends, size):
    """The kept ties of so many ends, ascending, out of those of two ends less.

    A first end comes, tied to a new one at each place in turn; the others are numbered anew.
    """
    told = [(row, heights(row) if ends > 2 * size else (0,) * ends) for row in rows]
    found = []
    for partner in range(1, ends):
        # Behind the new numbers of the others stands that of the first end, at the place -1.
        places = [end + 1 if end + 1 < partner else end + 2 for end in range(ends - 2)] + [0]
        for row, tall in told:
            # A rise that begins with the first end goes on with ends that have greater partners than it.
            if tall[partner - 1] < size:
                others = row[:partner - 1] + (-1,) + row[partner - 1:]
                found.append((partner,) + tuple([places[end] for end in others]))
    return found


def heights(row):
    """For each end, and for one more, how many ends a longest rise has, all partners from this end on."""
    ends = row[::-1]
    found = [0]
    begun = []
    for end in ends:
        behind = [many for many, other in zip(begun, ends) if other > end]
        begun.append(1 + max(behind, default=0))
        found.append(max(found[-1], begun[-1]))
    return found[::-1]
