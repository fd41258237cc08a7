"""The sizes at which sums of ties are nothing."""

from math import comb

from fromsize.errors import TooMany
from fromsize.tie_sums import need_tie_sum
from fromsize.tie_written import ties_written
from fromsize.weights import trimmed, weight_at

MOST_WEIGHTS = 12


def sizes_nothing(total):
    """All sizes at which the sum of ties is nothing, ascending; None for one without ties."""
    need_tie_sum(total, "total")
    if len(total) == 0:
        return None
    weights = [weight for weight, _ in total.terms]
    if max([len(weight) for weight in weights]) > MOST_WEIGHTS:
        raise TooMany("weights", MOST_WEIGHTS)
    half = total.ends // 2
    lesser = [size for size in range(1, half) if len(ties_written(total.at(size), size)) == 0]
    # From there on the sum is nothing only where all of its weights are 0.
    shortest = min(weights, key=len)
    greater = [size for size in sizes_of_zero(shortest) if size >= half and are_zero(weights, size)]
    return tuple(lesser + greater)


def are_zero(weights, size):
    """Whether all of these weights are 0 at this size."""
    return all([weight_at(weight, size) == 0 for weight in weights])


def sizes_of_zero(weight):
    """All sizes at which a weight other than 0 is 0, ascending."""
    starts = sign_starts(weight)
    found = []
    for start, stop in zip(starts, starts[1:]):
        if weight_at(weight, start) == 0:
            found.extend(list(range(start, stop)))
    return found


def sign_starts(weight):
    """The size 1, and each greater one at which the weight has another sign than at the one before."""
    if len(weight) <= 1:
        return [1]
    turns = sign_starts(differences(weight))
    starts = [1]
    for low, high in zip(turns, turns[1:] + [far_size(weight, turns[-1])]):
        # From low to high the weight only rises, only stays or only falls.
        while sign_at(weight, starts[-1]) != sign_at(weight, high):
            starts.append(next_start(weight, max(low, starts[-1]), high))
    return starts


def differences(weight):
    """The weight that tells by how much this one rises from each size to the next one."""
    many = len(weight)
    return trimmed([sum([weight[above] * comb(above, place) for above in range(place + 1, many)])
                    for place in range(many - 1)])


def far_size(weight, last):
    """A size above the last one at which the weight has the sign that it keeps from there on."""
    far = 2 * last
    while sign_at(weight, far) != sign_of_number(weight[-1]):
        far = 2 * far
    return far


def next_start(weight, low, high):
    """The least size above low with another sign than there, found by halving."""
    before = sign_at(weight, low)
    same, other = low, high
    while other - same > 1:
        middle = (same + other) // 2
        if sign_at(weight, middle) == before:
            same = middle
        else:
            other = middle
    return other


def sign_at(weight, size):
    """1, 0 or -1, as the weight is above 0, 0 or below 0 at this size."""
    return sign_of_number(weight_at(weight, size))


def sign_of_number(number):
    """1, 0 or -1, as the number is above 0, 0 or below 0."""
    if number == 0:
        return 0
    return 1 if number > 0 else -1
