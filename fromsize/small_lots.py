"""The lots of formulas, where none of them is too great to be led to a sum."""

from fromsize.errors import Misfit
from fromsize.led import letters_of, lots, need_few_letters, strings_of
from fromsize.ties import MOST_ENDS
from fromsize.wirings import MOST_WIRES
from fromsize.words import is_turned


def plain_lots(formula):
    """The lots of a formula without letters that are turned over."""
    if has_turned(formula):
        raise Misfit("turned")
    return lots_within(formula, MOST_WIRES)


def tied_lots(formula):
    """The lots of a formula, with letters that are turned over or without."""
    return lots_within(formula, MOST_ENDS // 2)


def lots_within(formula, most):
    """The lots of the formula; the first that needs more than so many wires, or too many ways to deal, is refused."""
    found = lots(formula)
    for lot in found:
        if has_wires(lot):
            need_few_letters(lot, letters_of(lot), most)
    return found


def has_turned(formula):
    """Whether a letter of the formula is turned over."""
    return any([is_turned(string) for term in formula.terms for string in strings_of(term)])


def has_wires(lot):
    """Whether the lot is led to wires; a number formula without letters is not."""
    return lot.is_table or len(lot.letters) > 0


def letters_many(lot):
    """How many letters a term of the lot has."""
    return len(letters_of(lot))
