"""Size weights: rows of integers, c0 first, each of which is a number at each size.

All take and return tuples, and return no 0 at their end.
"""


def trimmed(numbers):
    """The weight of these integers, which may have 0 at their end."""
    many = len(numbers)
    while many > 0 and numbers[many - 1] == 0:
        many = many - 1
    return tuple(numbers[:many])


def weights_added(one, other):
    """The two weights added."""
    first = one + (0,) * (len(other) - len(one))
    second = other + (0,) * (len(one) - len(other))
    return trimmed([number + more for number, more in zip(first, second)])


def weights_multiplied(one, other):
    """The two weights multiplied."""
    found = [0] * (len(one) + len(other))
    for place, number in enumerate(one):
        for step, more in enumerate(other):
            found[place + step] = found[place + step] + number * more
    return trimmed(found)


def weight_at(weight, size):
    """The number that the weight is at this size."""
    found = 0
    for number in weight[::-1]:
        found = found * size + number
    return found
