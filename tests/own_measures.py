"""What the tests work out of measures by themselves, straight from the words of the document."""

from itertools import product

from fromsize.measures import Measure

NO_MEASURE_SIZES = [0, 5, -1, True, False, None, "2", 2.0, [2], (), 10 ** 30, {}]


def all_lists(size, many):
    """All lists of so many places, ascending."""
    places = list(product(range(size), repeat=2))
    return list(product(places, repeat=many))


def drawn_list(draw, size, many):
    return tuple((draw.randrange(size), draw.randrange(size)) for _ in range(many))


def drawn_measure_terms(draw, size, many, most=8, great=9):
    return [(draw.randint(-great, great), drawn_list(draw, size, many)) for _ in range(draw.randint(0, most))]


def drawn_measure(draw, size, many, most=8, great=9):
    return Measure(size, many, drawn_measure_terms(draw, size, many, most, great))


def places_added(terms):
    """The weights added, list by list, 0 left out."""
    found = {}
    for weight, told in terms:
        key = tuple(tuple(place) for place in told)
        found[key] = found.get(key, 0) + weight
    return {key: weight for key, weight in found.items() if weight != 0}


def own_worth(told, tables):
    """The worth of a dict from lists to weights."""
    found = 0
    for places, weight in told.items():
        for table, (row, column) in zip(tables, places):
            weight *= table[row][column]
        found += weight
    return found


def measure_dict(measure):
    return {places: weight for weight, places in measure.terms}


def own_measure_of(total, size):
    """Each list asked by itself: the number with which the sum leads its columns to its rows."""
    found = {}
    for places in all_lists(size, total.wires):
        number = total.led([column for _, column in places], [row for row, _ in places])
        if number:
            found[places] = number
    return found


def own_measure_of_ties(total, size):
    """Each list asked by itself: the number with which the ties take its columns as tops, its rows as bottoms."""
    found = {}
    for places in all_lists(size, total.ends // 2):
        setting = [column for _, column in places] + [row for row, _ in places[::-1]]
        weight = total.taken(setting)
        if weight:
            found[places] = weight[0]
    return found


def unit(place, size):
    return [[int((row, column) == tuple(place)) for column in range(size)] for row in range(size)]


def base_table(size, row, other):
    """G and what undoes it."""
    one, back = unit((row, other), size), unit((row, other), size)
    for k in range(size):
        one[k][k], back[k][k] = 1, 1
    back[row][other] = -1
    return one, back


def turn_table(size, axes):
    """G of a turn, or of a mirror."""
    if len(axes) == 1:
        return [[(-1 if row == axes[0] else 1) if row == column else 0 for column in range(size)] for row in range(size)]
    one, other = axes
    told = [[5 if row == column else 0 for column in range(size)] for row in range(size)]
    told[one][one], told[other][other], told[one][other], told[other][one] = 3, 3, 4, -4
    return told
