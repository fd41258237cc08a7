"""Whether papers about what commutes are right."""

from fromsize.check_written import differs_by, leads
from fromsize.checks import is_list, is_within, need_size
from fromsize.classes import Clash, Commutes, difference
from fromsize.sums import need_sum


def shows_commutes(total, size, value):
    """Whether a value is a right Commutes or Clash of the sum at this size."""
    need_sum(total, "total")
    need_size(size)
    if type(value) is Commutes:
        return are_all_steps(total, size, value.steps)
    return type(value) is Clash and is_clash(total, size, value)


def are_all_steps(total, size, lists):
    """Whether there is a right list of steps for each top but the last one, and no other."""
    if not is_list(lists) or len(lists) != total.wires - 1:
        return False
    return all([differs_by(difference(total, top), size, steps) for top, steps in enumerate(lists)])


def is_clash(total, size, paper):
    """Whether the difference at the top that is told leads the settings that are told."""
    if not is_within(paper.top, 0, total.wires - 2):
        return False
    return leads(difference(total, paper.top), size, paper.tops, paper.bottoms)
