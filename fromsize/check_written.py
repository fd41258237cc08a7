"""Whether papers about writings are right."""

from fromsize.checks import is_setting_of_size, need_size
from fromsize.falls import kept_at
from fromsize.steps import are_steps, stood_for
from fromsize.sums import Sum, need_sum
from fromsize.written import Nothing, Something, Written


def shows_written(total, size, value):
    """Whether a value is a right Written of the sum at this size."""
    need_sum(total, "total")
    need_size(size)
    if type(value) is not Written or not is_writing(value.writing, total.wires, size):
        return False
    return differs_by(total - value.writing, size, value.steps)


def shows_judged(total, size, value):
    """Whether a value is a right Nothing or Something of the sum at this size."""
    need_sum(total, "total")
    need_size(size)
    if type(value) is Nothing:
        return differs_by(total, size, value.steps)
    return type(value) is Something and leads(total, size, value.tops, value.bottoms)


def is_writing(value, wires, size):
    """Whether a value is a sum of so many wires, all of its wirings kept at this size."""
    if not isinstance(value, Sum) or value.wires != wires:
        return False
    return all([kept_at(row, size) for _, row in value.terms])


def differs_by(difference, size, steps):
    """Whether these are a right list of steps that stand for the difference."""
    return are_steps(steps, difference.wires, size) and stood_for(difference.wires, steps) == difference


def leads(total, size, tops, bottoms):
    """Whether these are settings of this size that the sum leads with a number other than 0."""
    for setting in (tops, bottoms):
        if not is_setting_of_size(setting, total.wires, size):
            return False
    return total.led(tops, bottoms) != 0
