"""What the tests work out of ties by themselves, straight from the words of the document."""

from functools import lru_cache
from itertools import combinations, permutations

from fromsize.tie_sums import TieSum
from tests.own import own_sign

NO_TIES = [[0, 1], [0], [], (), [1], [1, 2, 0], [1, 0, 2], [1, 0, 2, 3], [1, 2, 3, 0], [1, 0, 3, 1], [2, 0, 3, 1], [1, 0, 4, 5],
           [-1, 0], [1, -2], [True, 0], (1, False), "10", "1032", ["1", "0"], [1.0, 0], [None, 0], [[1], [0]], {0: 1, 1: 0},
           {1, 0}, None, 1, range(2), 10 ** 30, [10 ** 30, 0], [1, 0, 3, 2, 5, 4, 7, 6, 9, 8, 11, 10], [1, 0, 2, 3, 5, 4],
           [3, 2, 1, 0, 4], b"\x01\x00"]
NO_ENDS = [0, 1, 3, 11, 12, -2, 10 ** 30, True, False, None, "4", [4], (2,), 4.0]


@lru_cache(maxsize=None)
def matchings(ends):
    """All ties of so many ends: those of two ends less, with a new last end tied to each place, all numbered anew."""
    if ends == 0:
        return [()]
    found = []
    for row in matchings(ends - 2):
        for place in range(ends - 1):
            moved = [k + (k >= place) for k in row]
            found.append(tuple(moved[:place] + [ends - 1] + moved[place:] + [place]))
    return sorted(found)


def drawn_ties(draw, ends):
    order = list(range(ends))
    draw.shuffle(order)
    row = [None] * ends
    for one, other in zip(order[::2], order[1::2]):
        row[one], row[other] = other, one
    return tuple(row)


def wires_met(links, first):
    """The last point of the path of these links that begins at a point, and all points of it."""
    points, before, at = [first], None, first
    while True:
        onward = [link for link in links if at in link and link != before]
        if not onward:
            return points
        before = onward[0]
        at = [point for point in before if point != at][0]
        if at == first:
            return points
        points.append(at)


def own_behind(one, other):
    """Walked from end to end, through links of partners and of joined ends; what is left are loops."""
    half = len(one) // 2
    links = [(("one", end), ("one", one[end])) for end in range(2 * half) if end < one[end]]
    links += [(("other", end), ("other", other[end])) for end in range(2 * half) if end < other[end]]
    links += [(("one", 2 * half - 1 - j), ("other", j)) for j in range(half)]
    number = {("one", end): end for end in range(half)}
    number.update({("other", end): end for end in range(half, 2 * half)})
    row, met = [None] * (2 * half), []
    for point in number:
        points = wires_met(links, point)
        met += points
        row[number[point]] = number[points[-1]]
    loops = 0
    for point in [(kind, end) for kind in ("one", "other") for end in range(2 * half)]:
        if point not in met:
            met += wires_met(links, point)
            loops += 1
    return tuple(row), loops


def own_shut(row):
    """The last wire closed: the two middle ends go, and who is left is numbered anew."""
    half = len(row) // 2
    left = [end for end in range(len(row)) if end not in (half - 1, half)]
    new = {}
    for end in left:
        partner = row[end]
        if partner == half - 1:
            partner = row[half]
        elif partner == half:
            partner = row[half - 1]
        new[end] = partner
    return tuple(left.index(new[end]) for end in left), int(row[half] == half - 1)


def own_turned(row):
    """Each end i numbered 2 n - 1 - i."""
    pairs = {(len(row) - 1 - end, len(row) - 1 - partner) for end, partner in enumerate(row)}
    return tuple(partner for _, partner in sorted(pairs))


def own_rises(row):
    """All rises, out of all lots of ends."""
    return [ends for many in range(1, len(row) // 2 + 2) for ends in combinations(range(len(row)), many)
            if all(row[one] < row[other] for one, other in zip(ends, ends[1:]))]


def own_dealt(row, ends):
    """The crossing, all ways to deal, as a dict of integers."""
    found = {}
    for order in permutations(range(len(ends))):
        told = dict(enumerate(row))
        for end, place in zip(ends, order):
            told[end] = row[ends[place]]
            told[row[ends[place]]] = end
        found[tuple(told[end] for end in range(len(row)))] = own_sign(order)
    return found


def trim(weight):
    weight = tuple(weight)
    while weight and weight[-1] == 0:
        weight = weight[:-1]
    return weight


def poly_added(one, other):
    return trim(sum(weight[place] for weight in (one, other) if place < len(weight))
                for place in range(max(len(one), len(other))))


def poly_product(one, other):
    return trim(sum(one[k] * other[place - k] for k in range(place + 1) if k < len(one) and place - k < len(other))
                for place in range(len(one) + len(other)))


def poly_at(weight, size):
    return sum(number * size ** place for place, number in enumerate(weight))


def ties_added(*dicts):
    found = {}
    for told in dicts:
        for row, weight in told.items():
            found[row] = poly_added(found.get(row, ()), weight)
    return {row: weight for row, weight in found.items() if weight}


def ties_scaled(told, weight):
    return {row: poly_product(more, weight) for row, more in told.items() if poly_product(more, weight)}


def ties_product(one, other):
    found = {}
    for row, weight in one.items():
        for then, more in other.items():
            new, loops = own_behind(row, then)
            part = poly_product(poly_product(weight, more), (0,) * loops + (1,))
            found[new] = poly_added(found.get(new, ()), part)
    return {row: weight for row, weight in found.items() if weight}


def ties_dict(total):
    return {row: weight for weight, row in total.terms}


def ties_sum(ends, told):
    return TieSum(ends, [(weight, row) for row, weight in told.items()])


def numbers_taken(total, setting, size):
    """The number with which a sum takes a setting, at a size: its ties asked one by one."""
    return sum(poly_at(weight, size) for weight, row in total.terms
               if all(setting[end] == setting[row[end]] for end in range(total.ends)))


def drawn_tie_terms(draw, ends, most=6, great=9, long=3):
    return [([draw.randint(-great, great) for _ in range(draw.randint(0, long))], drawn_ties(draw, ends))
            for _ in range(draw.randint(0, most))]


def drawn_tie_sum(draw, ends, most=6, great=9, long=3):
    return TieSum(ends, drawn_tie_terms(draw, ends, most, great, long))


def drawn_plain(draw, ends, most=6, great=9):
    """A drawn sum with weights that do not hang on the size."""
    return TieSum(ends, [((draw.choice([-1, 1]) * draw.randint(1, great),), drawn_ties(draw, ends))
                         for _ in range(draw.randint(0, most))])


def drawn_ends(draw, row, many):
    """So many ends, ascending, no two of them partners."""
    pairs = [(end, partner) for end, partner in enumerate(row) if end < partner]
    return tuple(sorted(draw.choice(pair) for pair in draw.sample(pairs, many)))


def own_stood_ties(steps):
    """What steps stand for, multiplied out one by one."""
    return ties_added(*[ties_scaled({row: (sign,) for row, sign in own_dealt(row, ends).items()}, (weight,))
                        for weight, row, ends in steps])
