"""Size weights: rows of integers, c0 first, each of which is a number at each size.

All take and return tuples, and return no 0 at their end.
"""


def trimmed(numbers):
    """The weight of these integers, which may have 0 at their end."""
    many = len(numbers)
    while many > 0 and numbers[many - 1] == 0:
        many = many - 1
    return tuple(numbers[:many])


def weights_added(one, other):
    """The two weights added."""
    first = one + (0,) * (len(other) - len(one))
    second = other + (0,) * (len(one) - len(other))
    return trimmed([number + more for number, more in zip(first, second)])


def weights_multiplied(one, other):
    """The two weights multiplied."""
    found = [0 for _ in range(len(one) + len(other))]
    for place, number in enumerate(one):
        for step, more in enumerate(other):
            found[place + step] = found[place + step] + number * more
    return trimmed(found)


def weight_at(weight, size):
    """The number that the weight is at this size."""
    found = 0
    for number in weight[::-1]:
        found = found * size + number
    return found


def telling_size(ones, others):
    """A size at which sums of products of these weights can be told from their numbers.

    No integer of what comes is greater than all those of the ones, added up without
    their signs, times all those of the others.
    """
    return 2 * all_added(ones) * all_added(others) + 1


def all_added(weights):
    """All integers of these weights, added up without their signs."""
    return sum([abs(number) for weight in weights for number in weight])


def weight_told(number, size):
    """The weight that is this number at a size more than twice as great as each of its integers."""
    found = []
    left = number
    while left != 0:
        digit = left % size
        if 2 * digit > size:
            digit = digit - size
        found.append(digit)
        left = (left - digit) // size
    return tuple(found)
