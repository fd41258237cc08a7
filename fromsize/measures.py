"""Measures: numbers made of the entries of tables, products of one entry of each, with weights."""

from fromsize.checks import is_integer, is_list, is_numbers, is_table, is_within
from fromsize.errors import BadMeasure, BadNumber, BadTable, BadText, Misfit, TooMany
from fromsize.sums import need_sum
from fromsize.texts import is_number_text, number_text
from fromsize.tie_sums import need_tie_sum
from fromsize.tie_written import need_plain_weights
from fromsize.wirings import led_to

MOST_SIZE = 4
MOST_TABLES = 5
MOST_ENTRIES = 256


class Measure:
    """Lists of places, one in each of so many tables of a size, each list once, with a weight other than 0."""

    def __init__(self, size, many, terms):
        need_measure_size(size)
        if not is_within(many, 1, MOST_TABLES):
            raise BadNumber("many")
        if not are_place_pairs(terms, size, many):
            raise BadMeasure("terms")
        need_few_entries(size, many, MOST_ENTRIES)
        self.size = size
        self.many = many
        self.terms = places_gathered(terms)

    @staticmethod
    def read(text):
        """The measure whose text this is."""
        if not isinstance(text, str):
            raise BadText(0)
        items = text.split(" ")
        for at in range(len(items)):
            if not can_stand_at(items, at):
                raise BadText(at)
        if len(items) < 3 or (len(items) > 3 and len(items) % 3 != 2):
            raise BadText(len(items))
        pairs = [(int(items[at]), places_read(items[at + 1])) for at in range(3, len(items), 3)]
        return Measure(int(items[0]), int(items[1]), pairs)

    def __eq__(self, other):
        if not isinstance(other, Measure):
            return False
        return self.size == other.size and self.many == other.many and self.terms == other.terms

    def __str__(self):
        items = [str(self.size), str(self.many), ":"]
        for weight, places in self.terms:
            if len(items) > 3:
                items.append("/")
            items.append(number_text(weight))
            items.append("".join([str(digit) for place in places for digit in place]))
        return " ".join(items)

    def __add__(self, other):
        if not isinstance(other, Measure):
            return NotImplemented
        if self.size != other.size:
            raise Misfit("size")
        if self.many != other.many:
            raise Misfit("many")
        return Measure(self.size, self.many, self.terms + other.terms)

    def times(self, number):
        """The measure taken so many times."""
        if not is_integer(number):
            raise BadNumber("number")
        return Measure(self.size, self.many, [(number * weight, places) for weight, places in self.terms])

    def worth(self, tables):
        """The weights, each times the entries of these tables at the places of its list, added up."""
        if not is_list(tables) or len(tables) != self.many:
            raise BadTable("tables")
        if not all([is_table(table, self.size) for table in tables]):
            raise BadTable("tables")
        found = 0
        for weight, places in self.terms:
            number = weight
            for table, (row, column) in zip(tables, places):
                number = number * table[row][column]
            found = found + number
        return found


def measure_of(total, size):
    """The measure that comes of a sum of wirings."""
    need_sum(total, "total")
    need_measure_size(size)
    if total.wires > MOST_TABLES:
        raise TooMany("tables", MOST_TABLES)
    need_few_entries(size, total.wires, MOST_ENTRIES)
    weights = {}
    for tops in settings_of_size(total.wires, size):
        for weight, row in total.terms:
            places = tuple(zip(led_to(row, tops), tops))
            weights[places] = weights.get(places, 0) + weight
    return measure_told(size, total.wires, weights)


def measure_of_ties(total, size):
    """The measure that comes of a sum of ties whose weights do not hang on the size."""
    need_tie_sum(total, "total")
    need_measure_size(size)
    need_plain_weights(total)
    half = total.ends // 2
    need_few_entries(size, half, MOST_ENTRIES)
    integers = settings_of_size(half, size)
    weights = {}
    for weight, row in total.terms:
        tops, bottoms = tied_places(row)
        for told in integers:
            places = tuple([(told[bottom], told[top]) for bottom, top in zip(bottoms, tops)])
            weights[places] = weights.get(places, 0) + weight[0]
    return measure_told(size, half, weights)


def need_measure(value, part):
    """Refuse what is no measure."""
    if not isinstance(value, Measure):
        raise BadMeasure(part)


def need_measure_size(size):
    """Refuse what is no size of a measure."""
    if not is_within(size, 1, MOST_SIZE):
        raise BadNumber("size")


def need_few_entries(size, many, most):
    """Refuse so many tables of this size if they have more settings than most."""
    if entries_of(size, many) > most:
        raise TooMany("entries", most)


def entries_of(size, many):
    """How many settings of this size so many integers have."""
    found = 1
    for _ in range(many):
        found = found * size
    return found


def are_place_pairs(value, size, many):
    """Whether a value is a list of pairs of an integer and a list of places in so many tables of this size."""
    if not is_list(value) or not all([is_list(pair) and len(pair) == 2 for pair in value]):
        return False
    return all([is_integer(weight) and are_places(places, size, many) for weight, places in value])


def are_places(value, size, many):
    """Whether a value is a list of places (row, column), one in each of so many tables of this size."""
    if not is_list(value) or len(value) != many or not all([is_list(place) and len(place) == 2 for place in value]):
        return False
    told = [number for place in value for number in place]
    return is_numbers(told) and min(told) >= 0 and max(told) < size


def places_gathered(pairs):
    """The pairs by their lists, ascending, weights of one list added, those with 0 left out."""
    weights = {}
    for weight, told in pairs:
        places = tuple([tuple(place) for place in told])
        weights[places] = weights.get(places, 0) + weight
    return terms_told(weights)


def terms_told(weights):
    """The pairs of a dict from lists to their weights, by the lists, ascending, those with 0 left out."""
    return tuple([(weights[places], places) for places in sorted(weights) if weights[places] != 0])


def measure_told(size, many, weights):
    """The measure of a dict from lists to their weights that are known to be right."""
    found = Measure(size, many, ())
    found.terms = terms_told(weights)
    return found


def settings_of_size(many, size):
    """All settings of so many integers and of this size, ascending."""
    found = [()]
    for _ in range(many):
        found = [setting + (told,) for setting in found for told in range(size)]
    return found


def tied_places(row):
    """For each top, and for each bottom in the order of the tops, which one of the ties it is an end of."""
    half = len(row) // 2
    firsts = [end for end, partner in enumerate(row) if end < partner]
    told = [firsts.index(min(end, partner)) for end, partner in enumerate(row)]
    return told[:half], told[half:][::-1]


def can_stand_at(items, at):
    """Whether the item at this place of a text can stand behind those ahead of it."""
    item = items[at]
    if at == 0:
        return item in ("1", "2", "3", "4")
    if at == 1:
        return item in ("1", "2", "3", "4", "5") and entries_of(int(items[0]), int(item)) <= MOST_ENTRIES
    if at == 2:
        return item == ":"
    if at % 3 == 0:
        return is_number_text(item) and item != "0"
    digits = "0123"[:int(items[0])]
    if at % 3 == 1:
        if len(item) != 2 * int(items[1]) or not all([digit in digits for digit in item]):
            return False
        return at == 4 or items[at - 3] < item
    # Behind the last list of all no other one could follow.
    return item == "/" and items[at - 1] != digits[-1] * len(items[at - 1])


def places_read(item):
    """The list of places that an item of a text writes."""
    return [(int(item[at]), int(item[at + 1])) for at in range(0, len(item), 2)]
