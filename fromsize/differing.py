"""Tables that show that a formula is no rule."""

from fromsize.formulas import Formula
from fromsize.led import strings_of
from fromsize.values import value_of


def differing_tables(formula, letters, units, size):
    """Tables of this size for these letters, for which the value of the formula is something.

    The units (letter, row, column) are those of a lot that is no rule, where no
    other lot that is none has all of its letters as often or oftener. Added up over
    all choices of some of them, with signs, the values are something: so one of
    them is. All other letters have tables of zeros: terms with such are left out.
    """
    known = [letter for letter, _, _ in units]
    terms = [term for term in formula.terms if all([string[0] in known for string in strings_of(term)])]
    part = Formula(formula.is_table, terms)
    for chosen in choices(units):
        tables = {letter: units_added(letter, chosen, size) for letter in letters}
        if is_something(value_of(part, tables, size)):
            return tuple([(letter, tables[letter]) for letter in letters])
    # Not reached: not all of these values are nothing.
    return None


def choices(units):
    """All choices of some of these, of all of them first, of none last."""
    found = [()]
    for unit in units:
        found = [chosen + (unit,) for chosen in found] + found
    return found


def units_added(letter, units, size):
    """The sum of those of these units that are for this letter, a table of this size."""
    table = [[0] * size for _ in range(size)]
    for told, row, column in units:
        if told == letter:
            table[row][column] = table[row][column] + 1
    return tuple([tuple(row) for row in table])


def is_something(value):
    """Whether the value of a formula is not nothing: no 0, and no table of zeros."""
    if isinstance(value, tuple):
        return any([entry != 0 for row in value for entry in row])
    return value != 0
