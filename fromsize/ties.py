"""Ties: ends that are tied two by two, told by the partner of each one.

The functions that the document lists check what they are passed. Those below
them take what has been checked.
"""

from fromsize.checks import is_numbers, is_within
from fromsize.errors import BadNumber, BadTies, Misfit, TooMany
from fromsize.joins import joined
from fromsize.wirings import need_wiring

MOST_ENDS = 10


def is_ties(value):
    """Whether a value is ties."""
    if not is_numbers(value) or not are_ends_many(len(value)):
        return False
    if min(value) < 0 or max(value) >= len(value):
        return False
    return all([value[other] == end and other != end for end, other in enumerate(value)])


def ties_of(row):
    """The ties of a wiring."""
    wiring = need_wiring(row, "row")
    if 2 * len(wiring) > MOST_ENDS:
        raise TooMany("ends", MOST_ENDS)
    return wired_ties(wiring)


def wiring_of(ties):
    """The wiring whose ties these are; None if there is none."""
    told = need_ties(ties, "ties")
    half = len(told) // 2
    if min(told[:half]) < half:
        return None
    return tuple([len(told) - 1 - end for end in told[:half]])


def ties_behind(one, other):
    """First the one, then the other: the ties, and how many loops there are."""
    first = need_ties(one, "one")
    second = need_ties(other, "other")
    if len(first) != len(second):
        raise Misfit("ends")
    return joined(first, second)


def ties_back(ties):
    """The ties turned about."""
    return ties_turned(need_ties(ties, "ties"))


def are_ends_many(value):
    """Whether ties can have so many ends."""
    return is_within(value, 2, MOST_ENDS) and value % 2 == 0


def need_ends_many(value):
    """Refuse what is no number of ends."""
    if not are_ends_many(value):
        raise BadNumber("ends")


def need_ties(value, part):
    """The ties as a tuple; what is none is refused."""
    if not is_ties(value):
        raise BadTies(part)
    return tuple(value)


def wired_ties(wiring):
    """The ties in which each top is tied to the bottom to which the wiring leads it."""
    last = 2 * len(wiring) - 1
    row = [0] * (last + 1)
    for top, bottom in enumerate(wiring):
        row[top] = last - bottom
        row[last - bottom] = top
    return tuple(row)


def ties_turned(row):
    """The ties with tops and bottoms exchanged."""
    last = len(row) - 1
    return tuple([last - end for end in row[::-1]])


def ties_closed(row):
    """The ties with their last wire closed, and how many loops that makes."""
    last = len(row) - 1
    half = len(row) // 2
    shut = (half - 1, half)
    # Whose partner goes has the partner of the end to which that one is joined.
    ends = [row[last - end] if end in shut else end for at, end in enumerate(row) if at not in shut]
    loops = 1 if row[half] == half - 1 else 0
    return tuple([end if end < half else end - 2 for end in ends]), loops
