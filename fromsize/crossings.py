"""Crossings: the bottoms of some tops of a wiring, dealt to them in all ways."""

from fromsize.checks import is_numbers
from fromsize.errors import BadTops
from fromsize.sums import Sum
from fromsize.wirings import need_wiring, signed_wirings


def crossing(row, tops):
    """The crossing of the wiring at these tops."""
    wiring = need_wiring(row, "row")
    need_tops(tops, len(wiring))
    return Sum(len(wiring), dealt(wiring, tops))


def plain(row, tops):
    """The plain sum of the wiring at these tops."""
    wiring = need_wiring(row, "row")
    need_tops(tops, len(wiring))
    return Sum(len(wiring), [(1, told) for _, told in dealt(wiring, tops)])


def are_tops(value, wires):
    """Whether a value is a list of one or more of so many tops, ascending, each once."""
    if not is_numbers(value) or not 1 <= len(value) <= wires:
        return False
    ascends = all([one < other for one, other in zip(value, value[1:])])
    return ascends and value[0] >= 0 and value[-1] < wires


def need_tops(value, wires):
    """Refuse what is no list of tops that can be crossed."""
    if not are_tops(value, wires):
        raise BadTops("tops")


def dealt(row, tops):
    """All ways to deal the bottoms of these tops to them: pairs of a sign and a wiring."""
    found = []
    for sign, order in signed_wirings(len(tops)):
        bottoms = list(row)
        for top, place in zip(tops, order):
            bottoms[top] = row[tops[place]]
        found.append((sign, tuple(bottoms)))
    return found
