"""Whether papers about sums of ties are right."""

from fromsize.checks import is_integer, is_list, is_setting_of_size
from fromsize.tie_sums import plain_tie_sum
from fromsize.tie_written import (NothingTied, SomethingTied, can_cross, need_plain_ties, signed_moves,
                                  ties_dealt)
from fromsize.ties import is_ties
from fromsize.wirings import sign_of

MOST_TIE_STEPS = 945


def shows_judged_ties(total, size, value):
    """Whether a value is a right NothingTied or SomethingTied of the sum at this size."""
    need_plain_ties(total, size)
    if type(value) is NothingTied:
        return are_steps_of(value.steps, total, size)
    if type(value) is not SomethingTied or not is_setting_of_size(value.setting, total.ends, size):
        return False
    return len(total.taken(value.setting)) > 0


def are_steps_of(steps, total, size):
    """Whether these are a right list of steps that stand for the sum."""
    return are_tie_steps(steps, total.ends, size) and ties_stood_for(steps, total.ends) == total


def are_tie_steps(value, ends, size):
    """Whether a value is a right list of steps of this size, for ties of so many ends."""
    if not is_list(value) or len(value) > MOST_TIE_STEPS:
        return False
    return all([is_tie_step(step, ends, size) for step in value])


def is_tie_step(value, ends, size):
    """Whether a value is a step of this size, its ties of so many ends."""
    if not is_list(value) or len(value) != 3:
        return False
    weight, row, told = value
    if not is_integer(weight) or weight == 0 or not is_ties(row) or len(row) != ends:
        return False
    return can_cross(told, row) and len(told) == size + 1


def ties_stood_for(steps, ends):
    """The sum of ties of so many ends that these steps, all with as many ends, stand for, added up."""
    weights = {}
    for weight, row, told in steps:
        place, sign = ties_smoothed(tuple(row), tuple(told))
        weights[place] = weights.get(place, 0) + sign * weight
    orders = signed_moves(len(steps[0][2])) if len(steps) > 0 else []
    found = {}
    for (row, told), weight in weights.items():
        for sign, other in ties_dealt(row, told, orders):
            found[other] = found.get(other, 0) + sign * weight
    return plain_tie_sum(ends, found)


def ties_smoothed(row, ends):
    """The ties of the same crossing in which these ends have ascending partners, and the sign to these.

    Steps with one such crossing are multiplied out at once. It is that at the partners, too.
    """
    partners = [row[end] for end in ends]
    told = list(row)
    for end, partner in zip(ends, sorted(partners)):
        told[end] = partner
        told[partner] = end
    first = min(ends, tuple(sorted(partners)))
    return (tuple(told), first), sign_of(partners)
