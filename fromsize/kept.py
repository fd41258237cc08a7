"""The wirings that are kept at a size."""

from fromsize.checks import is_within, need_size
from fromsize.errors import BadNumber, TooMany
from fromsize.falls import kept_at
from fromsize.steps import taken_out
from fromsize.sums import Sum
from fromsize.wirings import MOST_WIRES, all_wirings

MOST_LEFT = 5


def kept(wires, size):
    """All kept wirings of so many wires, ascending."""
    need_wires(wires)
    need_size(size)
    return tuple([row for row in all_wirings(wires) if kept_at(row, size)])


def kept_many(wires, size):
    """How many kept wirings of so many wires there are."""
    return len(kept(wires, size))


def left_over(wires, size):
    """For each wiring that is not kept, ascending, the sum of it less its writing."""
    need_wires(wires)
    need_size(size)
    if wires > MOST_LEFT:
        raise TooMany("wires", MOST_LEFT)
    over = [Sum.of(row) for row in all_wirings(wires) if not kept_at(row, size)]
    return tuple([total - taken_out(total, size)[0] for total in over])


def need_wires(wires):
    """Refuse what is no number of wires."""
    if not is_within(wires, 1, MOST_WIRES):
        raise BadNumber("wires")
