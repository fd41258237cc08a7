"""How many independent rows can be picked out of rows of integers."""

from math import gcd

from fromsize.checks import is_list, is_numbers
from fromsize.errors import BadNumber


def rank(rows):
    """How many independent rows can be picked out of these."""
    if not are_rows(rows):
        raise BadNumber("rows")
    heads = []
    for row in rows:
        rest = shortened(row)
        for at, head in heads:
            rest = cleared(rest, head, at)
        filled = [place for place, entry in enumerate(rest) if entry != 0]
        if len(filled) > 0:
            heads.append((filled[0], rest))
    return len(heads)


def are_rows(value):
    """Whether a value is a list of rows of integers, all as long."""
    if not is_list(value) or not all([is_numbers(row) for row in value]):
        return False
    return all([len(row) == len(value[0]) for row in value])


def shortened(row):
    """The row divided by what divides all of its integers; this keeps them small."""
    common = 0
    for entry in row:
        common = gcd(common, entry)
        if common == 1:
            return row
    if common == 0:
        return row
    return [entry // common for entry in row]


def cleared(row, head, at):
    """The row taken so many times, less the head so many times, that it has 0 at this place."""
    if row[at] == 0:
        return row
    common = gcd(row[at], head[at])
    many = head[at] // common
    less = row[at] // common
    return shortened([many * entry - less * other for entry, other in zip(row, head)])
