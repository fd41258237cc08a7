"""Which table formulas are central at a size: a number times the unit table, whatever tables are put."""

from fromsize.differing import differing_tables
from fromsize.errors import Misfit
from fromsize.formulas import Formula, need_formula
from fromsize.makings import makings_or_units
from fromsize.papers import Paper
from fromsize.rules import Differs
from fromsize.small_lots import has_turned, plain_lots
from fromsize.values import need_formula_size


class Central(Paper):
    """A formula is central: the makings of each lot of its levelled formula."""

    def __init__(self, lots):
        Paper.__init__(self, "central", lots)
        self.lots = self.parts[0]


def central(formula, size):
    """Whether the formula is central at this size, and what shows it."""
    need_table_formula(formula, size)
    level = levelled(formula, size)
    makings, units = makings_or_units(plain_lots(level), size)
    if units is None:
        return Central(makings)
    return Differs(differing_tables(level, formula.letters, units, size))


def need_table_formula(formula, size):
    """Refuse what is no formula, no size for one, a number formula, and letters that are turned over."""
    need_formula(formula, "formula")
    need_formula_size(size)
    if not formula.is_table:
        raise Misfit("kinds")
    if has_turned(formula):
        raise Misfit("turned")


def levelled(formula, size):
    """The levelled formula: of what has a word, so many times, its trace times the unit table is taken away."""
    told = [term for term in formula.terms if term[2] != ()]
    times = [(size * weight, traces, word) for weight, traces, word in told]
    less = [(-weight, traces + (word,), ()) for weight, traces, word in told]
    return Formula(True, times + less)
