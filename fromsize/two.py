"""Words of two tables of two rows, told by five numbers: polynomials.

The five numbers are the trace s and the determinant p of a, the trace t and the
determinant q of b, and the trace u of a b. Inside, a polynomial is a dict from
exponents to weights other than 0.
"""

from fromsize.errors import BadFormula, BadWord, TooMany
from fromsize.formulas import need_formula, need_same_kind
from fromsize.led import strings_of
from fromsize.words import is_word

MOST_STRINGS = 12
# The exponents of products of the five numbers.
NONE_OF_THEM = (0, 0, 0, 0, 0)
S = (1, 0, 0, 0, 0)
P = (0, 1, 0, 0, 0)
T = (0, 0, 1, 0, 0)
Q = (0, 0, 0, 1, 0)
U = (0, 0, 0, 0, 1)
S_T = (1, 0, 1, 0, 0)
S_Q = (1, 0, 0, 1, 0)


def at_two(word):
    """The polynomials x, y, z, w of a word: it is x + y a + z b + w a b."""
    need_two_word(word)
    return tuple([pairs_of(part) for part in parts_of(word)])


def trace_at_two(word):
    """The polynomial of the trace of a word."""
    need_two_word(word)
    return pairs_of(trace_of(word))


def alike_at_two(one, other):
    """Whether two formulas have one value for all tables a and b of two rows."""
    need_two_formula(one, "one")
    need_two_formula(other, "other")
    need_same_kind(one, other)
    if max([len(strings_of(term)) for term in one.terms + other.terms], default=0) > MOST_STRINGS:
        raise TooMany("letters", MOST_STRINGS)
    return all([len(part) == 0 for part in parts_of_formula(one - other)])


def need_two_word(word):
    """Refuse what is no word of the strings a and b alone, and one of too many."""
    if not is_word(word) or not all([string in ("a", "b") for string in word]):
        raise BadWord("word")
    if len(word) > MOST_STRINGS:
        raise TooMany("letters", MOST_STRINGS)


def need_two_formula(value, part):
    """Refuse what is no formula of the strings a and b alone."""
    need_formula(value, part)
    if not all([string in ("a", "b") for term in value.terms for string in strings_of(term)]):
        raise BadFormula(part)


def parts_of(word):
    """The polynomials x, y, z, w of a word, from its end on."""
    parts = [{NONE_OF_THEM: 1}, {}, {}, {}]
    for string in word[::-1]:
        parts = a_ahead(parts) if string == "a" else b_ahead(parts)
    return parts


def a_ahead(parts):
    """The polynomials of a times what these tell: a a is s a - p."""
    x, y, z, w = parts
    return [summed([(-1, P, y)]),
            summed([(1, NONE_OF_THEM, x), (1, S, y)]),
            summed([(-1, P, w)]),
            summed([(1, NONE_OF_THEM, z), (1, S, w)])]


def b_ahead(parts):
    """The polynomials of b times what these tell: b a is s b + t a + (u - s t) - a b, and b a b is u b + q a - s q."""
    x, y, z, w = parts
    return [summed([(1, U, y), (-1, S_T, y), (-1, Q, z), (-1, S_Q, w)]),
            summed([(1, T, y), (1, Q, w)]),
            summed([(1, NONE_OF_THEM, x), (1, S, y), (1, T, z), (1, U, w)]),
            summed([(-1, NONE_OF_THEM, y)])]


def trace_of(word):
    """The polynomial of the trace of a word; the unit table has the trace 2."""
    x, y, z, w = parts_of(word)
    return summed([(2, NONE_OF_THEM, x), (1, S, y), (1, T, z), (1, U, w)])


def summed(parts):
    """All of these added: each a polynomial behind a number and exponents by which it is multiplied."""
    found = {}
    for number, exponents, part in parts:
        for told, weight in part.items():
            place = tuple([one + more for one, more in zip(exponents, told)])
            found[place] = found.get(place, 0) + number * weight
    return {place: found[place] for place in found if found[place] != 0}


def multiplied_by(one, other):
    """The two polynomials multiplied."""
    return summed([(weight, exponents, other) for exponents, weight in one.items()])


def pairs_of(part):
    """The polynomial as it is told: pairs of a weight and exponents, by the exponents, ascending."""
    return tuple([(part[exponents], exponents) for exponents in sorted(part)])


def parts_of_formula(formula):
    """The polynomials x, y, z, w of a table formula; that of a number formula alone."""
    known = traces_known(formula)
    factors = {}
    for weight, traces, word in formula.terms:
        product = {NONE_OF_THEM: weight}
        for trace in traces:
            product = multiplied_by(known[trace], product)
        factors.setdefault(word, []).append((1, NONE_OF_THEM, product))
    found = [[], [], [], []] if formula.is_table else [[]]
    for word, told in factors.items():
        factor = summed(told)
        parts = parts_of(word) if formula.is_table else [{NONE_OF_THEM: 1}]
        for place, part in enumerate(parts):
            found[place].extend([(weight, exponents, part) for exponents, weight in factor.items()])
    return [summed(told) for told in found]


def traces_known(formula):
    """The polynomial of each trace of the formula."""
    found = {}
    for _, traces, _ in formula.terms:
        for trace in traces:
            if trace not in found:
                found[trace] = trace_of(trace)
    return found
