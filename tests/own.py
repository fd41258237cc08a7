"""What the tests work out by themselves, straight from the words of the document."""

import random
import unittest
from itertools import combinations, permutations, product

from fromsize.sums import Sum

GREAT = 10 ** 30
# Values that are no integer, no list of integers, no paper and no sum.
ODD_VALUES = [None, True, False, "", "012", "a", b"\x00", 1.0, {}, {0: 1}, {1}, object(), len, range(3), iter([0])]
NO_WIRINGS = [[0, 0], [0, 2], [1, 2], [-1, 0], [0, True], (False,), [True, 0], "0", "01", [], (), [0, 1, 2, 3, 4, 5, 6],
              [[0]], ["0"], [None], [0.0], {0: 0}, {0}, 0, 1, None, True, range(2), 10 ** 30, [0, 1, [2]]]
NO_SIZES = [0, -1, True, False, None, "1", 1.0, [1], (), -10 ** 30]


class Case(unittest.TestCase):
    """Asks for an error of just one class, with just these fields."""

    def refused(self, error, function, *values, **named):
        with self.assertRaises(type(error)) as held:
            function(*values, **named)
        self.assertIs(type(held.exception), type(error))
        self.assertEqual(vars(held.exception), vars(error))
        for name, field in vars(error).items():
            self.assertIs(type(getattr(held.exception, name)), type(field))


def rows_of(wires):
    return list(permutations(range(wires)))


def some_rows(seed=1, drawn=25):
    """All wirings of up to four wires, and drawn ones of five and six."""
    draw = random.Random(seed)
    small = [row for wires in (1, 2, 3, 4) for row in rows_of(wires)]
    return small + [drawn_row(draw, wires) for wires in (5, 6) for _ in range(drawn)]


def drawn_row(draw, wires):
    row = list(range(wires))
    draw.shuffle(row)
    return tuple(row)


def walked(row, setting):
    """Each wire walked from its top to its bottom, with its integer."""
    bottoms = {row[top]: setting[top] for top in range(len(row))}
    return tuple(bottoms[bottom] for bottom in range(len(row)))


def own_sign(row):
    """The sign by putting the row in order, an exchange at a time."""
    left, found = list(row), 1
    for at in range(len(left)):
        while left[at] != at:
            goal = left[at]
            left[at], left[goal] = left[goal], left[at]
            found = -found
    return found


def own_rounds(row):
    found = set()
    for first in range(len(row)):
        walk, at = [first], row[first]
        while at != first:
            walk.append(at)
            at = row[at]
        least = walk.index(min(walk))
        found.add(tuple(walk[least:] + walk[:least]))
    return tuple(sorted(found))


def is_fall(row, tops):
    return all(one < other and row[one] > row[other] for one, other in zip(tops, tops[1:]))


def own_falls(row):
    """All falls of the wiring, out of all rows of tops."""
    tops = range(len(row))
    return [fall for many in range(1, len(row) + 1) for fall in combinations(tops, many) if is_fall(row, fall)]


def own_longest(row):
    return max(len(fall) for fall in own_falls(row))


def own_colours(row):
    falls = own_falls(row)
    return tuple(max(len(fall) - 1 for fall in falls if fall[-1] == top) for top in range(len(row)))


def patterns(many, size):
    """Settings of this size, one of all that are alike but for the names of their integers."""
    found = [()]
    for _ in range(many):
        found = [row + (k,) for row in found for k in range(min(size, max(row, default=-1) + 2))]
    return found


def numbers_of(terms, tops):
    """The settings to which the wirings lead this one, with the weights added up, 0 left out."""
    found = {}
    for weight, row in terms:
        bottoms = walked(row, tops)
        found[bottoms] = found.get(bottoms, 0) + weight
    return {bottoms: number for bottoms, number in found.items() if number != 0}


def is_nothing(terms, wires, size):
    return all(numbers_of(terms, tops) == {} for tops in patterns(wires, size))


def own_crossing(row, tops):
    """The crossing, found by exchanging two bottoms again and again, as a dict."""
    found, left = {tuple(row): 1}, [tuple(row)]
    while left:
        told = left.pop()
        for one, other in combinations(tops, 2):
            new = list(told)
            new[one], new[other] = new[other], new[one]
            if tuple(new) not in found:
                found[tuple(new)] = -found[told]
                left.append(tuple(new))
    return found


def added(*dicts):
    found = {}
    for one in dicts:
        for row, weight in one.items():
            found[row] = found.get(row, 0) + weight
    return {row: weight for row, weight in found.items() if weight != 0}


def scaled(told, number):
    return {row: number * weight for row, weight in told.items() if number * weight != 0}


def own_stood(steps):
    """What the steps stand for, multiplied out one by one."""
    return added(*[scaled(own_crossing(row, tops), weight) for weight, row, tops in steps])


def own_product(one, other):
    found = {}
    for row, weight in one.items():
        for then, more in other.items():
            new = tuple(then[row[top]] for top in range(len(row)))
            found[new] = found.get(new, 0) + weight * more
    return {row: weight for row, weight in found.items() if weight != 0}


def as_dict(total):
    return {row: weight for weight, row in total.terms}


def as_sum(wires, told):
    return Sum(wires, [(weight, row) for row, weight in told.items()])


def drawn_terms(draw, wires, most=8, great=9):
    return [(draw.randint(-great, great), drawn_row(draw, wires)) for _ in range(draw.randint(0, most))]


def drawn_sum(draw, wires, most=8, great=9):
    return Sum(wires, drawn_terms(draw, wires, most, great))


def drawn_tops(draw, wires, many):
    return sorted(draw.sample(range(wires), many))


def sizes_of(wires):
    """Every size from 1 to one more than the wires, and a great one."""
    return list(range(1, wires + 2)) + [GREAT]


def all_settings(many, size):
    return list(product(range(size), repeat=many))
