"""Crossings of ties, and writings of sums of ties by those that are kept at a size."""

from heapq import heapify, heappop, heappush

from fromsize.checks import is_numbers, need_size
from fromsize.errors import BadEnds, Misfit
from fromsize.papers import Denial, Paper
from fromsize.rises import end_colours, rise_beyond
from fromsize.tie_sums import need_tie_sum, plain_tie_sum
from fromsize.ties import need_ties
from fromsize.wirings import signed_wirings


class NothingTied(Paper):
    """A sum of ties is nothing at a size: it is what these steps stand for."""

    def __init__(self, steps):
        Paper.__init__(self, "nothingtied", steps)
        self.steps = self.parts[0]


class SomethingTied(Denial):
    """A sum of ties is something at a size: it takes this setting with a number other than 0."""

    def __init__(self, setting):
        Denial.__init__(self, "somethingtied", setting)
        self.setting = self.parts[0]


def tie_crossing(ties, ends):
    """The crossing of the ties at these ends."""
    row = need_ties(ties, "ties")
    if not can_cross(ends, row):
        raise BadEnds("ends")
    return plain_tie_sum(len(row), {told: sign for sign, told in ties_dealt(row, ends, signed_moves(len(ends)))})


def ties_written(total, size):
    """The writing of the sum of ties at this size."""
    need_plain_ties(total, size)
    return ties_taken_out(total, size)[0]


def judged_ties(total, size):
    """Whether the sum of ties is nothing or something at this size, and what shows it."""
    need_plain_ties(total, size)
    writing, steps = ties_taken_out(total, size)
    if len(writing) == 0:
        return NothingTied(steps)
    # No other kept ties of the writing take the colours of the earliest ones.
    return SomethingTied(end_colours(writing.terms[0][1]))


def need_plain_ties(total, size):
    """Refuse what is no sum of ties, what is no size, and weights that hang on the size."""
    need_tie_sum(total, "total")
    need_size(size)
    need_plain_weights(total)


def need_plain_weights(total):
    """Refuse a sum of ties with a weight that hangs on the size."""
    if max([len(weight) for weight, _ in total.terms], default=0) > 1:
        raise Misfit("weights")


def can_cross(value, row):
    """Whether a value is a list of one or more ends, ascending, each once, no two of them partners."""
    if not is_numbers(value) or not 1 <= len(value) <= len(row):
        return False
    if not all([one < other for one, other in zip(value, value[1:])]):
        return False
    if value[0] < 0 or value[-1] >= len(row):
        return False
    return all([row[end] not in value for end in value])


def signed_moves(many):
    """For each order of so many ends its sign, and which ends get which partners, those that get others alone."""
    return [(sign, [(place, goal) for place, goal in enumerate(order) if place != goal])
            for sign, order in signed_wirings(many)]


def ties_dealt(row, ends, orders):
    """All ways to deal the partners of these ends to them, in these orders told by moves: pairs of a sign and ties."""
    partners = [row[end] for end in ends]
    found = []
    for sign, moves in orders:
        told = list(row)
        for place, goal in moves:
            end = ends[place]
            partner = partners[goal]
            told[end] = partner
            told[partner] = end
        found.append((sign, tuple(told)))
    return found


def ties_taken_out(total, size):
    """The writing of the sum of ties at this size, and steps that stand for what it lacks.

    Of the crossing at a rise its own ties are the earliest. So, the earliest
    ties first, none come back once they are taken out.
    """
    if 2 * size >= total.ends:
        # No rise has more ends than there are ties.
        return total, ()
    weights = {row: weight[0] for weight, row in total.terms}
    rises = {row: rise_beyond(row, size) for row in weights}
    waiting = [row for row in weights if rises[row] != ()]
    heapify(waiting)
    orders = signed_moves(size + 1) if len(waiting) > 0 else []
    steps = []
    while len(waiting) > 0:
        row = heappop(waiting)
        weight = weights[row]
        if weight != 0:
            steps.append((weight, row, rises[row]))
            for sign, other in ties_dealt(row, rises[row], orders):
                if other not in rises:
                    rises[other] = rise_beyond(other, size)
                    if rises[other] != ():
                        heappush(waiting, other)
                weights[other] = weights.get(other, 0) - sign * weight
    return plain_tie_sum(total.ends, weights), tuple(steps)
