"""Wirings: rows of integers that tell to which bottom each top is led.

The functions that the document lists check what they are passed. Those below
them take what has been checked.
"""

from fromsize.checks import is_list, is_numbers, is_setting
from fromsize.errors import BadSetting, BadWiring, Misfit, TooMany

MOST_WIRES = 6


def is_wiring(value):
    """Whether a value is a wiring."""
    if not is_list(value) or not 1 <= len(value) <= MOST_WIRES:
        return False
    return is_numbers(value) and sorted(value) == list(range(len(value)))


def behind(one, other):
    """First the one, then the other."""
    first = need_wiring(one, "one")
    second = need_wiring(other, "other")
    if len(first) != len(second):
        raise Misfit("wires")
    return put_behind(first, second)


def back(row):
    """The wiring turned about."""
    return turned_about(need_wiring(row, "row"))


def beside(one, other):
    """The two beside one another, the wires of the one first."""
    first = need_wiring(one, "one")
    second = need_wiring(other, "other")
    if len(first) + len(second) > MOST_WIRES:
        raise TooMany("wires", MOST_WIRES)
    return put_beside(first, second)


def sign(row):
    """1 if an even number of pairs of wires cross, otherwise -1."""
    return sign_of(need_wiring(row, "row"))


def rounds(row):
    """All rounds, ascending."""
    return rounds_of(need_wiring(row, "row"))


def led(row, setting):
    """The setting of the bottoms to which the wiring leads one of the tops."""
    wiring = need_wiring(row, "row")
    if not is_setting(setting, len(wiring)):
        raise BadSetting("setting")
    return led_to(wiring, setting)


def need_wiring(value, part):
    """The wiring as a tuple; what is none is refused."""
    if not is_wiring(value):
        raise BadWiring(part)
    return tuple(value)


def all_wirings(wires):
    """All wirings of so many wires, ascending."""
    rows = [()]
    for _ in range(wires):
        rows = [row + (bottom,) for row in rows for bottom in range(wires) if bottom not in row]
    return rows


def signed_wirings(wires):
    """All wirings of so many wires, each behind its sign; of no wires the one without any."""
    pairs = [(1, ())]
    for last in range(wires):
        longer = []
        for number, row in pairs:
            # With the last bottom put a place further ahead one more wire is crossed.
            for place in range(last, -1, -1):
                longer.append((number, row[:place] + (last,) + row[place:]))
                number = -number
        pairs = longer
    return pairs


def put_behind(one, other):
    """First the one, then the other."""
    return tuple([other[bottom] for bottom in one])


def put_beside(one, other):
    """The two beside one another, the wires of the one first."""
    return one + tuple([len(one) + bottom for bottom in other])


def turned_about(row):
    """The wiring that leads each bottom to its top."""
    return tuple([row.index(bottom) for bottom in range(len(row))])


def sign_of(row):
    """1 if an even number of pairs of wires cross, otherwise -1."""
    crossed = [1 for top in range(len(row)) for ahead in range(top) if row[ahead] > row[top]]
    return 1 if len(crossed) % 2 == 0 else -1


def rounds_of(row):
    """All rounds, ascending."""
    found = []
    passed = []
    for first in range(len(row)):
        if first not in passed:
            walk = [first]
            while row[walk[-1]] != first:
                walk.append(row[walk[-1]])
            passed.extend(walk)
            found.append(tuple(walk))
    return tuple(found)


def led_to(row, setting):
    """The setting of the bottoms to which the wiring leads one of the tops."""
    bottoms = [0] * len(row)
    for bottom, number in zip(row, setting):
        bottoms[bottom] = number
    return tuple(bottoms)
