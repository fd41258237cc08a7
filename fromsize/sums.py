"""Sums of wirings, each with its weight."""

from fromsize.checks import is_integer, is_list, is_setting, is_within
from fromsize.errors import BadNumber, BadSetting, BadSum, BadText, Misfit, TooMany
from fromsize.texts import is_number_text, number_text
from fromsize.wirings import MOST_WIRES, is_wiring, led_to, need_wiring, put_behind, put_beside, turned_about

MOST_PRODUCTS = 20000


class Sum:
    """Wirings of as many wires, each once, each with a weight other than 0."""

    def __init__(self, wires, terms):
        if not is_within(wires, 1, MOST_WIRES):
            raise BadNumber("wires")
        if not are_pairs(terms, wires):
            raise BadSum("terms")
        self.wires = wires
        self.terms = gathered(terms)

    @staticmethod
    def of(row):
        """The sum of this wiring by itself."""
        wiring = need_wiring(row, "row")
        return Sum(len(wiring), [(1, wiring)])

    @staticmethod
    def read(text):
        """The sum whose text this is."""
        if not isinstance(text, str):
            raise BadText(0)
        items = text.split(" ")
        for at in range(len(items)):
            if not can_stand(items, at):
                raise BadText(at)
        if not is_whole(items):
            raise BadText(len(items))
        pairs = [(int(items[place]), [int(digit) for digit in items[place + 1]]) for place in range(2, len(items), 3)]
        return Sum(int(items[0]), pairs)

    def __eq__(self, other):
        return isinstance(other, Sum) and self.wires == other.wires and self.terms == other.terms

    def __len__(self):
        return len(self.terms)

    def __str__(self):
        items = [str(self.wires), ":"]
        for weight, row in self.terms:
            if len(items) > 2:
                items.append("/")
            items.append(number_text(weight))
            items.append("".join([str(bottom) for bottom in row]))
        return " ".join(items)

    def __add__(self, other):
        if not isinstance(other, Sum):
            return NotImplemented
        need_fit(self, other)
        return Sum(self.wires, self.terms + other.terms)

    def __sub__(self, other):
        if not isinstance(other, Sum):
            return NotImplemented
        need_fit(self, other)
        return Sum(self.wires, self.terms + tuple([(-weight, row) for weight, row in other.terms]))

    def __mul__(self, other):
        if not isinstance(other, Sum):
            return NotImplemented
        need_fit(self, other)
        if len(self.terms) * len(other.terms) > MOST_PRODUCTS:
            raise TooMany("products", MOST_PRODUCTS)
        pairs = [(weight * more, put_behind(row, then)) for weight, row in self.terms for more, then in other.terms]
        return Sum(self.wires, gathered(pairs))

    def times(self, number):
        """The sum taken so many times."""
        if not is_integer(number):
            raise BadNumber("number")
        return Sum(self.wires, [(number * weight, row) for weight, row in self.terms])

    def back(self):
        """The sum turned about."""
        return Sum(self.wires, [(weight, turned_about(row)) for weight, row in self.terms])

    def beside(self, other):
        """The two sums beside one another, the wires of this one first."""
        need_sum(other, "other")
        if self.wires + other.wires > MOST_WIRES:
            raise TooMany("wires", MOST_WIRES)
        pairs = [(weight * more, put_beside(row, then)) for weight, row in self.terms for more, then in other.terms]
        return Sum(self.wires + other.wires, pairs)

    def weight(self, row):
        """The weight of a wiring, 0 if it is none of the sum's."""
        wiring = need_wiring(row, "row")
        if len(wiring) != self.wires:
            raise Misfit("wires")
        return sum([weight for weight, told in self.terms if told == wiring])

    def led(self, tops, bottoms):
        """The number with which the sum leads the one setting to the other."""
        if not is_setting(tops, self.wires):
            raise BadSetting("tops")
        if not is_setting(bottoms, self.wires):
            raise BadSetting("bottoms")
        goal = tuple(bottoms)
        return sum([weight for weight, row in self.terms if led_to(row, tops) == goal])

    def closed(self):
        """The last wire closed: the sum of what had no loop, and the sum of what had one."""
        if self.wires == 1:
            raise Misfit("wires")
        last = self.wires - 1
        plain = [(weight, closed_up(row)) for weight, row in self.terms if row[last] != last]
        looped = [(weight, row[:last]) for weight, row in self.terms if row[last] == last]
        return Sum(last, plain), Sum(last, looped)


def are_pairs(value, wires):
    """Whether a value is a list of pairs of an integer and a wiring of so many wires."""
    if not is_list(value) or not all([is_list(pair) and len(pair) == 2 for pair in value]):
        return False
    return all([is_integer(weight) and is_wiring(row) and len(row) == wires for weight, row in value])


def gathered(pairs):
    """The pairs by their rows, ascending, weights of one row added, those with 0 left out."""
    weights = {}
    for weight, told in pairs:
        row = tuple(told)
        weights[row] = weights.get(row, 0) + weight
    return tuple([(weights[row], row) for row in sorted(weights) if weights[row] != 0])


def need_sum(value, part):
    """Refuse what is no sum."""
    if not isinstance(value, Sum):
        raise BadSum(part)


def need_fit(one, other):
    """Refuse two sums that have not as many wires."""
    if one.wires != other.wires:
        raise Misfit("wires")


def closed_up(row):
    """The wiring with its last wire closed, where that makes no loop."""
    last = len(row) - 1
    return tuple([row[last] if bottom == last else bottom for bottom in row[:last]])


def can_stand(items, at):
    """Whether the item at this place of a text can stand behind those ahead of it."""
    item = items[at]
    if at == 0:
        return item in ("1", "2", "3", "4", "5", "6")
    if at == 1:
        return item == ":"
    digits = list("012345")[:int(items[0])]
    if at % 3 == 2:
        return is_number_text(item) and item != "0"
    if at % 3 == 0:
        return sorted(item) == digits and (at == 3 or items[at - 3] < item)
    # Behind the latest of all wirings no other one could follow.
    return item == "/" and list(items[at - 1]) != digits[::-1]


def is_whole(items):
    """Whether no item is missing behind these, each of which can stand."""
    return len(items) == 2 or (len(items) > 2 and len(items) % 3 == 1)
