"""Steps: crossings at a top more than the size, each taken so many times."""

from heapq import heapify, heappop, heappush

from fromsize.checks import is_integer, is_list
from fromsize.crossings import are_tops, dealt
from fromsize.falls import fall_of, kept_at
from fromsize.sums import Sum
from fromsize.wirings import is_wiring, sign_of

MOST_STEPS = 720


def taken_out(total, size):
    """The writing of the sum at this size, and steps by which the two differ.

    The crossing at a fall has no wiring as late as its own. So, the latest
    wirings first, none comes back once it is taken out.
    """
    if size >= total.wires:
        # No fall has more tops than there are wires.
        return total, ()
    weights = {row: weight for weight, row in total.terms}
    waiting = [negative(row) for row in weights if not kept_at(row, size)]
    heapify(waiting)
    steps = []
    while len(waiting) > 0:
        row = negative(heappop(waiting))
        weight = weights[row]
        if weight != 0:
            tops = fall_of(row)[:size + 1]
            steps.append((weight, row, tops))
            for sign, other in dealt(row, tops):
                if other not in weights and not kept_at(other, size):
                    heappush(waiting, negative(other))
                weights[other] = weights.get(other, 0) - sign * weight
    return Sum(total.wires, [(weights[row], row) for row in weights]), tuple(steps)


def negative(row):
    """The row with all signs turned: the latest wirings have the least ones."""
    return tuple([-bottom for bottom in row])


def is_step(value, wires, size):
    """Whether a value is a step of this size, its wiring of so many wires."""
    if not is_list(value) or len(value) != 3:
        return False
    weight, row, tops = value
    if not is_integer(weight) or weight == 0 or not is_wiring(row) or len(row) != wires:
        return False
    return are_tops(tops, wires) and len(tops) == size + 1


def are_steps(value, wires, size):
    """Whether a value is a right list of steps of this size, for sums of so many wires."""
    if not is_list(value) or len(value) > MOST_STEPS:
        return False
    return all([is_step(step, wires, size) for step in value])


def stood_for(wires, steps):
    """The sum of wirings of so many wires that these steps stand for, added up."""
    weights = {}
    for weight, row, tops in steps:
        place, sign = smoothed(tuple(row), tuple(tops))
        weights[place] = weights.get(place, 0) + sign * weight
    found = {}
    for (row, tops), weight in weights.items():
        for sign, other in dealt(row, tops):
            found[other] = found.get(other, 0) + sign * weight
    return Sum(wires, [(found[row], row) for row in found])


def smoothed(row, tops):
    """The wiring of the same crossing in which these tops go to ascending bottoms, and the sign to this one.

    Steps with one such wiring are multiplied out at once: of a crossing there
    are few, though each can be told by as many wirings as it has.
    """
    bottoms = [row[top] for top in tops]
    found = list(row)
    for top, bottom in zip(tops, sorted(bottoms)):
        found[top] = bottom
    return (tuple(found), tops), sign_of(bottoms)
