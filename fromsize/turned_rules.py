"""Which formulas, with letters turned over or without, are rules of a size, and from which size on none."""

from fromsize.differing import differing_tables
from fromsize.formulas import need_formula
from fromsize.led import letters_of, sum_of, wires_of
from fromsize.makings import units_on
from fromsize.papers import Paper
from fromsize.rises import end_colours
from fromsize.rules import Differs
from fromsize.small_lots import has_turned, has_wires, letters_many, plain_lots, tied_lots
from fromsize.tie_written import ties_taken_out, ties_written
from fromsize.tied import tie_sum_of
from fromsize.values import need_formula_size
from fromsize.written import least_size


class MadeTied(Paper):
    """A formula is a rule: for each of its lots steps that stand for the ties of the lot."""

    def __init__(self, lots):
        Paper.__init__(self, "madetied", lots)
        self.lots = self.parts[0]


def turned_rule(formula, size):
    """Whether the formula is a rule of this size, and what shows it."""
    need_formula(formula, "formula")
    need_formula_size(size)
    steps, units = steps_or_units(tied_lots(formula), size)
    if units is None:
        return MadeTied(steps)
    return Differs(differing_tables(formula, formula.letters, units, size))


def from_size(formula):
    """The least size of which the formula is no rule; None for one without terms."""
    need_formula(formula, "formula")
    if has_turned(formula):
        sizes = [tied_from(lot) for lot in tied_lots(formula)]
    else:
        sizes = [plain_from(lot) for lot in plain_lots(formula)]
    return min(sizes, default=None)


def steps_or_units(told, size):
    """The steps of the ties of each of these lots, and None; or None, and the units of one that is no rule.

    Lots with the most letters are asked first. So of those that are no rules the
    first one is told, and no other one has all of its letters as often or oftener.
    """
    found = {}
    for lot in sorted(told, key=letters_many, reverse=True):
        if not has_wires(lot):
            return None, []
        writing, steps = ties_taken_out(tie_sum_of(lot), size)
        if len(writing) > 0:
            setting = end_colours(writing.terms[0][1])
            # Wire by wire the bottoms are the last ends, told backwards.
            return None, units_on(wires_of(lot, letters_of(lot)), setting[::-1], setting)
        found[letters_of(lot)] = steps
    return [found[letters_of(lot)] for lot in told], None


def plain_from(lot):
    """The least size of which a lot without turned letters is no rule."""
    return least_size(sum_of(lot)) if has_wires(lot) else 1


def tied_from(lot):
    """The least size of which a lot is no rule."""
    if not has_wires(lot):
        return 1
    total = tie_sum_of(lot)
    half = total.ends // 2
    for size in range(1, half):
        if len(ties_written(total, size)) > 0:
            return size
    # With as many wires as the size all ties are kept.
    return half
