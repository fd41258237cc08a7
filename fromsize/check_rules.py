"""Whether papers about rules are right."""

from fromsize.central import Central, levelled, need_table_formula
from fromsize.check_ties import are_steps_of
from fromsize.checks import is_list, is_table
from fromsize.differing import is_something
from fromsize.formulas import need_formula
from fromsize.makings import are_makings
from fromsize.rules import Differs, Made
from fromsize.small_lots import has_wires, plain_lots, tied_lots
from fromsize.tied import tie_sum_of
from fromsize.turned_rules import MadeTied
from fromsize.values import need_formula_size, value_of


def shows_rule(formula, size, value):
    """Whether a value is a right Made or Differs of the formula at this size."""
    need_formula(formula, "formula")
    need_formula_size(size)
    told = plain_lots(formula)
    if type(value) is Made:
        return are_all_makings(value.lots, told, size)
    return type(value) is Differs and is_shown_by(value.tables, formula, size)


def shows_turned_rule(formula, size, value):
    """Whether a value is a right MadeTied or Differs of the formula at this size."""
    need_formula(formula, "formula")
    need_formula_size(size)
    told = tied_lots(formula)
    if type(value) is MadeTied:
        return are_all_steps_of(value.lots, told, size)
    return type(value) is Differs and is_shown_by(value.tables, formula, size)


def shows_central(formula, size, value):
    """Whether a value is a right Central or Differs of the formula at this size."""
    need_table_formula(formula, size)
    told = plain_lots(levelled(formula, size))
    if type(value) is Central:
        return are_all_makings(value.lots, told, size)
    if type(value) is not Differs or not are_tables_for(value.tables, formula, size):
        return False
    return not is_unit_times(value_of(formula, dict(value.tables), size))


def are_all_makings(lists, told, size):
    """Whether there is a right list of makings for each of these lots, and no other."""
    if not is_list(lists) or len(lists) != len(told):
        return False
    return all([has_wires(lot) and are_makings(makings, lot, size) for lot, makings in zip(told, lists)])


def are_all_steps_of(lists, told, size):
    """Whether there is a right list of steps for the ties of each of these lots, and no other."""
    if not is_list(lists) or len(lists) != len(told):
        return False
    return all([has_wires(lot) and are_steps_of(steps, tie_sum_of(lot), size) for lot, steps in zip(told, lists)])


def is_shown_by(tables, formula, size):
    """Whether these are tables for the formula's letters for which its value is something."""
    return are_tables_for(tables, formula, size) and is_something(value_of(formula, dict(tables), size))


def are_tables_for(value, formula, size):
    """Whether a value is a list of pairs: the letters of the formula, each with a table of this size."""
    if not is_list(value) or len(value) != len(formula.letters):
        return False
    if not all([is_list(pair) and len(pair) == 2 for pair in value]):
        return False
    return all([isinstance(told, str) and told == letter and is_table(table, size)
                for (told, table), letter in zip(value, formula.letters)])


def is_unit_times(table):
    """Whether a table is an integer times the unit table."""
    return all([entry == (table[0][0] if column == place else 0)
                for place, row in enumerate(table) for column, entry in enumerate(row)])
