"""Which formulas are rules of a size: what they are made of, or tables that show that they are none."""

from fromsize.differing import differing_tables
from fromsize.formulas import need_formula
from fromsize.makings import makings_or_units
from fromsize.papers import Denial, Paper
from fromsize.small_lots import plain_lots
from fromsize.values import need_formula_size


class Made(Paper):
    """A formula is a rule: the makings of each of its lots."""

    def __init__(self, lots):
        Paper.__init__(self, "made", lots)
        self.lots = self.parts[0]


class Differs(Denial):
    """A formula is no rule, or not central: tables for its letters that show it."""

    def __init__(self, tables):
        Denial.__init__(self, "differs", tables)
        self.tables = self.parts[0]


def rule(formula, size):
    """Whether the formula is a rule of this size, and what shows it."""
    need_formula(formula, "formula")
    need_formula_size(size)
    makings, units = makings_or_units(plain_lots(formula), size)
    if units is None:
        return Made(makings)
    return Differs(differing_tables(formula, formula.letters, units, size))
