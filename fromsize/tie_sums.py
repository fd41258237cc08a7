"""Sums of ties, each with its size weight."""

from fromsize.checks import is_list, is_numbers, is_setting, need_size
from fromsize.errors import BadNumber, BadSetting, BadText, BadTieSum, Misfit, TooMany
from fromsize.joins import all_joined
from fromsize.sums import MOST_PRODUCTS, need_sum
from fromsize.texts import is_number_text, number_text
from fromsize.ties import MOST_ENDS, is_ties, need_ends_many, need_ties, ties_closed, ties_turned, wired_ties
from fromsize.weights import (telling_size, trimmed, weight_at, weight_told, weights_added,
                              weights_multiplied)


class TieSum:
    """Ties of as many ends, each once, each with a size weight other than 0."""

    def __init__(self, ends, terms):
        need_ends_many(ends)
        if not are_tie_pairs(terms, ends):
            raise BadTieSum("terms")
        self.ends = ends
        self.terms = ties_gathered(terms)

    @staticmethod
    def of(ties):
        """The sum of these ties by themselves."""
        row = need_ties(ties, "ties")
        return TieSum(len(row), [((1,), row)])

    @staticmethod
    def wired(total):
        """The ties of the wirings of a Sum, each with its weight."""
        need_sum(total, "total")
        if 2 * total.wires > MOST_ENDS:
            raise TooMany("ends", MOST_ENDS)
        return TieSum(2 * total.wires, [((weight,), wired_ties(row)) for weight, row in total.terms])

    @staticmethod
    def read(text):
        """The sum of ties whose text this is."""
        if not isinstance(text, str):
            raise BadText(0)
        items = text.split(" ")
        if items[0] not in ("2", "4", "6", "8", "10"):
            raise BadText(0)
        if len(items) == 1 or items[1] != ":":
            raise BadText(1)
        ends = int(items[0])
        return TieSum(ends, pairs_read(items, ends))

    def __eq__(self, other):
        return isinstance(other, TieSum) and self.ends == other.ends and self.terms == other.terms

    def __len__(self):
        return len(self.terms)

    def __str__(self):
        items = [str(self.ends), ":"]
        for weight, row in self.terms:
            if len(items) > 2:
                items.append("/")
            items.append("".join([str(end) for end in row]))
            items.extend([number_text(number) for number in weight])
        return " ".join(items)

    def __add__(self, other):
        if not isinstance(other, TieSum):
            return NotImplemented
        need_same_ends(self, other)
        return TieSum(self.ends, self.terms + other.terms)

    def __sub__(self, other):
        if not isinstance(other, TieSum):
            return NotImplemented
        need_same_ends(self, other)
        less = [([-number for number in weight], row) for weight, row in other.terms]
        return TieSum(self.ends, self.terms + tuple(less))

    def __mul__(self, other):
        if not isinstance(other, TieSum):
            return NotImplemented
        need_same_ends(self, other)
        if len(self.terms) * len(other.terms) > MOST_PRODUCTS:
            raise TooMany("products", MOST_PRODUCTS)
        # Numbers at one size are multiplied, and the weights are told from what comes.
        size = telling_size(weights_of(self.terms), weights_of(other.terms))
        numbers = all_joined(numbers_at(self.terms, size), numbers_at(other.terms, size), size)
        return TieSum(self.ends, [(weight_told(numbers[row], size), row) for row in numbers])

    def times(self, weight):
        """The sum with all of its weights multiplied by one."""
        if not is_numbers(weight):
            raise BadNumber("weight")
        factor = trimmed(weight)
        return TieSum(self.ends, [(weights_multiplied(factor, told), row) for told, row in self.terms])

    def back(self):
        """The sum turned about."""
        return TieSum(self.ends, [(weight, ties_turned(row)) for weight, row in self.terms])

    def at(self, size):
        """The sum with each weight as the number that it is at this size."""
        need_size(size)
        return TieSum(self.ends, [((weight_at(weight, size),), row) for weight, row in self.terms])

    def closed(self):
        """The sum with the last wire closed, a loop counted as the size."""
        if self.ends == 2:
            raise Misfit("ends")
        pairs = []
        for weight, row in self.terms:
            ties, loops = ties_closed(row)
            pairs.append((with_loops(weight, loops), ties))
        return TieSum(self.ends - 2, pairs)

    def weight(self, ties):
        """The weight of some ties, () if they are none of the sum's."""
        row = need_ties(ties, "ties")
        if len(row) != self.ends:
            raise Misfit("ends")
        return added_up([weight for weight, told in self.terms if told == row])

    def taken(self, setting):
        """The size weight with which the sum takes a setting."""
        if not is_setting(setting, self.ends):
            raise BadSetting("setting")
        return added_up([weight for weight, row in self.terms if take(row, setting)])


def are_tie_pairs(value, ends):
    """Whether a value is a list of pairs of a list of integers and ties of so many ends."""
    if not is_list(value) or not all([is_list(pair) and len(pair) == 2 for pair in value]):
        return False
    return all([is_numbers(weight) and is_ties(row) and len(row) == ends for weight, row in value])


def ties_gathered(pairs):
    """The pairs by their ties, ascending, weights of the same ties added, those with 0 left out."""
    weights = {}
    for weight, told in pairs:
        row = tuple(told)
        weights[row] = weights_added(weights[row], tuple(weight)) if row in weights else trimmed(weight)
    return tuple([(weights[row], row) for row in sorted(weights) if len(weights[row]) > 0])


def plain_tie_sum(ends, numbers):
    """The sum of a dict from ties of so many ends, known to be right, to integers, weights that hang on no size."""
    found = TieSum(ends, ())
    found.terms = tuple([((numbers[row],), row) for row in sorted(numbers) if numbers[row] != 0])
    return found


def need_tie_sum(value, part):
    """Refuse what is no sum of ties."""
    if not isinstance(value, TieSum):
        raise BadTieSum(part)


def need_same_ends(one, other):
    """Refuse two sums that have not as many ends."""
    if one.ends != other.ends:
        raise Misfit("ends")


def weights_of(pairs):
    """The weights of these pairs."""
    return [weight for weight, _ in pairs]


def numbers_at(pairs, size):
    """The pairs with each weight as the number that it is at this size."""
    return [(weight_at(weight, size), row) for weight, row in pairs]


def with_loops(weight, loops):
    """The weight multiplied by the size for each loop."""
    return (0,) * loops + weight


def added_up(weights):
    """All these weights added."""
    found = ()
    for weight in weights:
        found = weights_added(found, weight)
    return found


def take(row, setting):
    """Whether partners have the same integer."""
    return all([setting[end] == setting[partner] for end, partner in enumerate(row)])


def pairs_read(items, ends):
    """The pairs that the items behind the first two tell."""
    latest = tuple(range(ends))[::-1]
    pairs = []
    for at in range(2, len(items)):
        if at == 2 or items[at - 1] == "/":
            row = tuple(["0123456789".find(sign) for sign in items[at]])
            if not is_ties(row) or len(row) != ends or (at > 2 and row <= pairs[-1][1]):
                raise BadText(at)
            pairs.append(([], row))
        elif items[at] == "/":
            if not is_told(pairs[-1][0]) or pairs[-1][1] == latest:
                raise BadText(at)
        elif is_number_text(items[at]):
            pairs[-1][0].append(int(items[at]))
        else:
            raise BadText(at)
    if len(items) > 2 and (items[-1] == "/" or not is_told(pairs[-1][0])):
        raise BadText(len(items))
    return pairs


def is_told(numbers):
    """Whether these integers of a text are a whole weight: there are some, and the last one is not 0."""
    return len(numbers) > 0 and numbers[-1] != 0
