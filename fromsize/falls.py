"""Falls of wirings, and at which sizes wirings are kept.

The functions that the document lists check what they are passed. Those below
them take what has been checked.
"""

from fromsize.checks import need_size
from fromsize.wirings import led_to, need_wiring


def colours(row):
    """The colours of all tops."""
    return colours_of(need_wiring(row, "row"))


def longest_fall(row):
    """The tops of a fall, no other one having more."""
    return fall_of(need_wiring(row, "row"))


def settings_of(row):
    """The two settings: the colours at the tops, and what the wiring leads them to."""
    return both_settings(need_wiring(row, "row"))


def is_kept(row, size):
    """Whether the wiring is kept at this size."""
    wiring = need_wiring(row, "row")
    need_size(size)
    return kept_at(wiring, size)


def colours_of(row):
    """The colours of all tops."""
    found = []
    for top, bottom in enumerate(row):
        ahead = [found[other] + 1 for other in range(top) if row[other] > bottom]
        found.append(max(ahead, default=0))
    return tuple(found)


def fall_of(row):
    """The tops of a longest fall."""
    told = colours_of(row)
    fall = [told.index(max(told))]
    while told[fall[-1]] > 0:
        top = fall[-1]
        before = [other for other in range(top) if row[other] > row[top] and told[other] == told[top] - 1]
        fall.append(before[0])
    return tuple(fall[::-1])


def both_settings(row):
    """The colours at the tops, and what the wiring leads them to."""
    told = colours_of(row)
    return told, led_to(row, told)


def kept_at(row, size):
    """Whether no fall of the wiring has more tops than the size."""
    # For falls of one top, of two and so on: the greatest bottom with which one ends.
    ends = []
    for bottom in row:
        many = len([1 for end in ends if end > bottom])
        if many == size:
            return False
        ends[many:many + 1] = [bottom]
    return True
