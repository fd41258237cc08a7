"""What the tests work out of rules by themselves, straight from the words of the document."""

from collections import Counter
from math import factorial

from fromsize.formulas import Formula
from tests.own import added, own_rounds, own_sign, rows_of
from tests.own_formulas import as_terms, bag, drawn_tables, own_value, row_of

MARK = "*"
LETTERS = "abcdefghijklmnopqrstuvwxyz"


def own_one(words):
    """The terms of the one rule, as a dict."""
    return bag([(own_sign(row), [[string for k in walk for string in words[k]] for walk in own_rounds(row)], None)
                for row in rows_of(len(words))])


def own_cayley(words):
    """The terms of its table form, as a dict: the word behind the number 0 in its round is told without it."""
    terms = []
    for row in rows_of(len(words) + 1):
        traces, word = [], None
        for walk in own_rounds(row):
            strings = [string for k in walk if k > 0 for string in words[k - 1]]
            if walk[0] == 0:
                word = strings
            else:
                traces.append(strings)
        terms.append((own_sign(row), traces, word))
    return bag(terms)


def own_copies(row):
    found = 1
    for many in Counter(row).values():
        found *= factorial(many)
    return found


def own_lots(formula):
    """The terms of the formula by their rows of letters, ascending: pairs of a row and a list of terms."""
    found = {}
    for term in formula.terms:
        found.setdefault(row_of(term), []).append(term)
    return sorted(found.items())


def own_meant(row, terms):
    """A lot times its copies, each word read round with the mark behind it, as a dict."""
    many = own_copies(row)
    return bag([(many * weight, list(traces) + ([] if word is None else [tuple(word) + (MARK,)]), None) for weight, traces, word in terms])


def own_made(makings):
    """What makings make, each multiplied out, as a dict."""
    found = {}
    for weight, traces, words in makings:
        beside = bag([(weight, traces, None)])
        for (one, _), times in beside.items():
            for (other, _), more in own_one(words).items():
                key = (tuple(sorted(one + other)), None)
                found[key] = found.get(key, 0) + times * more
    return {key: weight for key, weight in found.items() if weight != 0}


def is_listed(value):
    return type(value) in (list, tuple)


def is_own_making(value, strings, size):
    """Whether a value is a making with just these strings, asked of each of its parts."""
    if not is_listed(value) or len(value) != 3 or type(value[0]) is not int or value[0] == 0:
        return False
    _, traces, words = value
    if not is_listed(traces) or not is_listed(words) or len(words) != size + 1:
        return False
    told = [*traces, *words]
    if not all(is_listed(word) and len(word) > 0 for word in told):
        return False
    met = [string for word in told for string in word]
    return all(type(string) is str for string in met) and sorted(met) == sorted(strings)


def is_own_made(formula, size, lists):
    """Whether lists of makings make the lots of a formula, in their order."""
    told = own_lots(formula)
    if not is_listed(lists) or len(lists) != len(told):
        return False
    for (row, terms), makings in zip(told, lists):
        strings = list(row) + [MARK] * formula.is_table
        if not is_listed(makings) or len(makings) > 720 or not all(is_own_making(one, strings, size) for one in makings):
            return False
        if own_made(makings) != own_meant(row, terms):
            return False
    return True


def is_own_table(value, size):
    return is_listed(value) and len(value) == size and all(
        is_listed(row) and len(row) == size and all(type(entry) is int for entry in row) for row in value)


def are_own_tables(formula, size, told):
    """Whether pairs are the letters of the formula, ascending, each with a table of the size."""
    letters = sorted({letter for row, _ in own_lots(formula) for letter in row})
    if not is_listed(told) or not all(is_listed(pair) and len(pair) == 2 for pair in told):
        return False
    if not all(type(letter) is str and is_own_table(table, size) for letter, table in told):
        return False
    return [letter for letter, _ in told] == letters


def is_own_something(formula, size, told):
    """Whether the formula has a value other than 0 for these tables."""
    if not are_own_tables(formula, size, told):
        return False
    value = own_value(formula.terms, formula.is_table, dict(told), size)
    return any(any(row) for row in value) if formula.is_table else value != 0


def is_scalar(value):
    """Whether a table is an integer times the unit table."""
    return all(entry == (value[0][0] if i == j else 0) for i, row in enumerate(value) for j, entry in enumerate(row))


def is_nothing_at(draw, formula, size, times=6, great=3):
    """Whether the value is nothing for some drawn tables."""
    for _ in range(times):
        value = own_value(formula.terms, formula.is_table, drawn_tables(draw, size, LETTERS, great), size)
        if value != (tuple(((0,) * size,) * size) if formula.is_table else 0):
            return False
    return True


def as_formula(is_table, told):
    return Formula(is_table, [(weight, *key) for key, weight in told.items()])


def cut_words(draw, strings, many):
    """The strings in so many words, each with one at least."""
    places = sorted(draw.sample(range(1, len(strings)), many - 1))
    return [list(strings[start:stop]) for start, stop in zip([0] + places, places + [len(strings)])]


def drawn_part(draw, size, is_table, strings):
    """Something that the one rule makes of these strings: words ahead and behind, traces beside; a formula."""
    told = draw.sample(strings, len(strings))
    as_cayley = is_table and (len(told) <= size or draw.random() < 0.5)
    words = size if as_cayley else size + 1
    spare = len(told) - words
    beside = [told.pop() for _ in range(draw.randint(0, spare))]
    traces = cut_words(draw, beside, draw.randint(1, len(beside))) if beside and (not is_table or draw.random() < 0.5) else []
    rest = [] if traces else beside
    factor = Formula(False, [(draw.choice([-2, -1, 1, 3]), traces, None)])
    terms = own_cayley(cut_words(draw, told, words)) if as_cayley else own_one(cut_words(draw, told, words))
    part = as_formula(as_cayley, terms) * factor
    if is_table:
        at = draw.randint(0, len(rest))
        part = Formula.of(rest[:at]) * part * Formula.of(rest[at:])
    return part


def fits(formula, most=2000):
    return all(len(terms) * own_copies(row) <= most for row, terms in own_lots(formula))


def drawn_rule(draw, size, is_table, parts=2, letters="abcd"):
    """A rule of the size, with a term at least: a sum of what the one rule makes of drawn words."""
    most = 5 if is_table else 6
    least = size if is_table else size + 1
    while True:
        total = Formula(is_table, [])
        for _ in range(parts):
            strings = [draw.choice(letters) for _ in range(draw.randint(least, most))]
            total = total + drawn_part(draw, size, is_table, strings)
        if total.terms and fits(total):
            return total


def own_rank(rows):
    """The rank by fractions cleared with a prime so great that the entries of these rows can't be taken for 0."""
    prime = 2 ** 61 - 1
    heads = []
    for row in rows:
        left = [entry % prime for entry in row]
        for at, head in heads:
            if left[at]:
                left = [(entry - left[at] * other) % prime for entry, other in zip(left, head)]
        at = next((place for place, entry in enumerate(left) if entry), None)
        if at is not None:
            inverse = pow(left[at], prime - 2, prime)
            heads.append((at, [entry * inverse % prime for entry in left]))
    return len(heads)


def changed(formula, told):
    """The formula with more terms, a dict."""
    return as_formula(formula.is_table, added(as_terms(formula), told))
