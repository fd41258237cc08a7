"""Ties put behind one another.

Between the two there are points: at each one a bottom of the one is joined to
a top of the other. Ties of two bottoms, or of two tops, are arcs that lead
from a point to another one. How the ends that are left go through the points
hangs on these arcs alone: so it is found once for all ties that have the same.
"""

from fromsize.weights import weight_at


def joined(one, other):
    """First the one, then the other: the ties, and how many loops there are."""
    downs, ups, loops = passages(bottom_arcs(one), top_arcs(other))
    places = places_ahead(one, downs) + places_behind(other, ups)
    both = one + other
    return tuple([both[place] for place in places]), loops


def all_joined(ones, others, size):
    """First each of the ones, then each of the others: the number of each ties that come, a dict.

    Both are pairs of a number and ties. Numbers are multiplied, also by this size
    for each loop, and added where the same ties come again.
    """
    ahead_of = with_bottom_arcs(ones)
    behind_them = with_top_arcs(others)
    numbers = {}
    for below, firsts in ahead_of.items():
        for above, seconds in behind_them.items():
            downs, ups, loops = passages(below, above)
            factor = weight_at((0,) * loops + (1,), size)
            heads = [(number * factor, row, places_ahead(row, downs)) for number, row in firsts]
            tails = [(number, row, places_behind(row, ups)) for number, row in seconds]
            for number, row, ahead in heads:
                for more, then, behind in tails:
                    both = row + then
                    ties = tuple([both[place] for place in ahead + behind])
                    numbers[ties] = numbers.get(ties, 0) + number * more
    return numbers


def with_bottom_arcs(pairs):
    """Lists of these pairs of a number and ties, by their arcs at the bottoms."""
    found = {}
    for number, row in pairs:
        found.setdefault(bottom_arcs(row), []).append((number, row))
    return found


def with_top_arcs(pairs):
    """Lists of these pairs of a number and ties, by their arcs at the tops."""
    found = {}
    for number, row in pairs:
        found.setdefault(top_arcs(row), []).append((number, row))
    return found


def top_arcs(row):
    """For each top the top to which it is tied; -1 for one that is tied to a bottom."""
    half = len(row) // 2
    return tuple([end if end < half else -1 for end in row[:half]])


def bottom_arcs(row):
    """For each bottom the bottom to which it is tied; -1 for one that is tied to a top."""
    half = len(row) // 2
    last = len(row) - 1
    return tuple([last - end if end >= half else -1 for end in row[:half - 1:-1]])


def passages(below, above):
    """How the points are gone through, between arcs of bottoms and arcs of tops.

    For each point to which a way comes from the tops of the one, the place, in both
    rows of ties one behind the other, of the last end of this way; likewise for each
    to which a way comes from the bottoms of the other; and how many loops there are.
    """
    ends = 2 * len(below)
    points = range(len(below))
    downs = [ends + way_out(point, below, above) if below[point] < 0 else 0 for point in points]
    ups = [ends - 1 - way_out(point, above, below) if above[point] < 0 else 0 for point in points]
    inner = [point for point in points if below[point] >= 0 and above[point] >= 0]
    return downs, ups, len([1 for point in inner if point == min(ring_of(point, below, above), default=-1)])


def way_out(start, near, far):
    """The point at which a way that comes to this one from the near side goes out to the far side.

    If it turns back to the near side: -1 less the point. So, as top p stands as far
    behind the middle of both rows as bottom p ahead of it, either is told by one integer.
    """
    at = start
    while far[at] >= 0:
        at = far[at]
        if near[at] < 0:
            return -1 - at
        at = near[at]
    return at


def ring_of(start, below, above):
    """The points of the ring on which this one is; none if it is on a way that comes out."""
    ring = []
    at = start
    while above[at] >= 0 and below[above[at]] >= 0:
        ring.append(at)
        ring.append(above[at])
        at = below[above[at]]
        if at == start:
            return ring
    return []


def places_ahead(row, downs):
    """The places of the partners of the tops of ties that are put ahead of others."""
    half = len(row) // 2
    last = len(row) - 1
    return [top if end < half else downs[last - end] for top, end in enumerate(row[:half])]


def places_behind(row, ups):
    """The places of the partners of the bottoms of ties that are put behind others."""
    half = len(row) // 2
    return [len(row) + end if partner >= half else ups[partner] for end, partner in enumerate(row) if end >= half]
