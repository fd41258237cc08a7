"""Ties: ends that are tied two by two, told by the partner of each one.

The functions that the document lists check what they are passed. Those below
them take what has been checked.
"""

from fromsize.checks import is_numbers, is_within
from fromsize.errors import BadNumber, BadTies, Misfit, TooMany
from fromsize.wirings import need_wiring

MOST_ENDS = 10


def is_ties(value):
    """Whether a value is ties."""
    if not is_numbers(value) or not are_ends_many(len(value)):
        return False
    ends = range(len(value))
    return all([other in ends and other != end and value[other] == end for end, other in enumerate(value)])


def ties_of(row):
    """The ties of a wiring."""
    wiring = need_wiring(row, "row")
    if 2 * len(wiring) > MOST_ENDS:
        raise TooMany("ends", MOST_ENDS)
    return wired_ties(wiring)


def wiring_of(ties):
    """The wiring whose ties these are; None if there is none."""
    told = need_ties(ties, "ties")
    half = len(told) // 2
    if min(told[:half]) < half:
        return None
    return tuple([len(told) - 1 - end for end in told[:half]])


def ties_behind(one, other):
    """First the one, then the other: the ties, and how many loops there are."""
    first = need_ties(one, "one")
    second = need_ties(other, "other")
    if len(first) != len(second):
        raise Misfit("ends")
    return joined(first, second)


def ties_back(ties):
    """The ties turned about."""
    return ties_turned(need_ties(ties, "ties"))


def are_ends_many(value):
    """Whether ties can have so many ends."""
    return is_within(value, 2, MOST_ENDS) and value % 2 == 0


def need_ends_many(value):
    """Refuse what is no number of ends."""
    if not are_ends_many(value):
        raise BadNumber("ends")


def need_ties(value, part):
    """The ties as a tuple; what is none is refused."""
    if not is_ties(value):
        raise BadTies(part)
    return tuple(value)


def all_ties(ends):
    """All ties of so many ends, ascending."""
    rows = []
    for pairs in pairings(tuple(range(ends))):
        row = [0] * ends
        for one, other in pairs:
            row[one] = other
            row[other] = one
        rows.append(tuple(row))
    return rows


def pairings(free):
    """All ways to pair these off, those first in which the first one has the least partner."""
    if len(free) == 0:
        return [()]
    found = []
    for at in range(1, len(free)):
        rest = free[1:at] + free[at + 1:]
        found.extend([((free[0], free[at]),) + more for more in pairings(rest)])
    return found


def wired_ties(wiring):
    """The ties in which each top is tied to the bottom to which the wiring leads it."""
    last = 2 * len(wiring) - 1
    row = [0] * (last + 1)
    for top, bottom in enumerate(wiring):
        row[top] = last - bottom
        row[last - bottom] = top
    return tuple(row)


def joined(one, other):
    """First the one, then the other: the ties, and how many loops there are.

    The ends of the other are numbered on behind those of the one. So each end
    in the middle is joined to the one as far from the last end as it from the first.
    """
    ends = len(one)
    half = ends // 2
    both = one + tuple([ends + end for end in other])
    found = []
    passed = []
    for start in list(range(half)) + list(range(ends + half, 2 * ends)):
        walk = walked(both, start)
        passed.extend(walk)
        found.append(walk[-1] if walk[-1] < half else walk[-1] - ends)
    loops = 0
    for start in range(half, ends):
        if start not in passed and 2 * ends - 1 - start not in passed:
            passed.extend(walked(both, start))
            loops += 1
    return tuple(found), loops


def walked(both, start):
    """The ends that a walk comes to, till one is left free, or is joined to the start."""
    last = len(both) - 1
    middle = range(len(both) // 4, 3 * (len(both) // 4))
    walk = [both[start]]
    while walk[-1] in middle and walk[-1] != last - start:
        walk.append(both[last - walk[-1]])
    return walk


def ties_turned(row):
    """The ties with tops and bottoms exchanged."""
    last = len(row) - 1
    return tuple([last - end for end in row[::-1]])


def ties_closed(row):
    """The ties with their last wire closed, and how many loops that makes."""
    last = len(row) - 1
    half = len(row) // 2
    shut = (half - 1, half)
    # Whose partner goes has the partner of the end to which that one is joined.
    ends = [row[last - end] if end in shut else end for at, end in enumerate(row) if at not in shut]
    loops = 1 if row[half] == half - 1 else 0
    return tuple([end if end < half else end - 2 for end in ends]), loops
