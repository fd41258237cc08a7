"""Values of formulas: tables put for their letters."""

from fromsize.checks import is_table, is_within
from fromsize.errors import BadNumber, BadTable, Misfit
from fromsize.formulas import need_formula
from fromsize.words import STROKE, is_letter

MOST_SIZE = 8


def value_of(formula, tables, size):
    """The value of the formula: an integer, of a table formula a table."""
    need_formula(formula, "formula")
    need_formula_size(size)
    if not are_tables(tables, size):
        raise BadTable("tables")
    if not all([letter in tables for letter in formula.letters]):
        raise Misfit("letters")
    known = first_products(formula.letters, tables, size)
    numbers = {}
    parts = {}
    for weight, traces, word in formula.terms:
        number = weight
        for trace in traces:
            if trace not in numbers:
                numbers[trace] = trace_value(trace, known)
            number = number * numbers[trace]
        parts[word] = parts.get(word, 0) + number
    if not formula.is_table:
        return parts.get(None, 0)
    return tables_added([(many, word_value(told, known)) for told, many in parts.items()], size)


def need_formula_size(size):
    """Refuse what is no size that formulas are asked at."""
    if not is_within(size, 1, MOST_SIZE):
        raise BadNumber("size")


def are_tables(value, size):
    """Whether a value is a dict from letters to tables of this size."""
    if not isinstance(value, dict):
        return False
    return all([is_letter(letter) and is_table(table, size) for letter, table in value.items()])


def first_products(letters, tables, size):
    """The products of the words of no string and of one, for these letters."""
    line = range(size)
    known = {(): tuple([tuple([1 if row == column else 0 for column in line]) for row in line])}
    for letter in letters:
        known[(letter,)] = tuple([tuple(row) for row in tables[letter]])
        known[(letter + STROKE,)] = tuple([tuple([tables[letter][row][column] for row in line]) for column in line])
    return known


def word_value(word, known):
    """The product of a word.

    It is made of those of its halves, and these are kept among what is known:
    other words have the same ones, and the numbers of long words stay small longer.
    """
    if word not in known:
        half = len(word) // 2
        known[word] = multiplied(word_value(word[:half], known), word_value(word[half:], known))
    return known[word]


def trace_value(word, known):
    """The trace of a word, made of its halves without the rest of the product."""
    half = len(word) // 2
    one = word_value(word[:half], known)
    other = word_value(word[half:], known)
    return sum([sum([number * more[at] for number, more in zip(row, other)]) for at, row in enumerate(one)])


def multiplied(one, other):
    """The one table times the other one."""
    columns = list(zip(*other))
    return tuple([tuple([sum([number * more for number, more in zip(row, column)]) for column in columns])
                  for row in one])


def tables_added(parts, size):
    """The sum of these tables of this size, each taken so many times: pairs of a number and a table."""
    found = [[0] * size for _ in range(size)]
    for number, table in parts:
        found = [[entry + number * more for entry, more in zip(row, other)] for row, other in zip(found, table)]
    return tuple([tuple(row) for row in found])
