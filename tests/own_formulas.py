"""What the tests work out of words and formulas by themselves, straight from the words of the document."""

from collections import Counter
from functools import lru_cache

from fromsize.formulas import Formula

ALPHABET = "abcdefghijklmnopqrstuvwxyz"
NO_WORDS = ["ab", "a", "", None, 1, True, {}, {"a": 1}, {"a"}, ["A"], ["a''"], ["'"], ["'a"], [""], ["ab"], [1], [None], [["a"]],
            [("a",)], ["a", "b "], ["\u00e4"], ["a\u2019"], ["a", 1], ["*"], [b"a"], ["a`"], [" a"], ["a\n"], ["abc"], range(1),
            ["a'b"], ["\u0430"], iter(["a"])]
NO_LETTERS = ["a'", "", "ab", "A", "*", "1", "\u00e4", " ", None, 1, True, ["a"], ("a",), b"a", {"a"}, "a ", "'"]


def own_turned_word(word):
    return tuple(string[:1] if "'" in string else string + "'" for string in reversed(word))


def own_round(word):
    return round_kept(tuple(word))


@lru_cache(maxsize=None)
def round_kept(word):
    told = [word] + [each[k:] + each[:k] for each in (word, own_turned_word(word)) for k in range(len(word))]
    return min(told)


def bag(terms):
    """The terms as a dict from traces and word to their weight."""
    found = {}
    for weight, traces, word in terms:
        key = (tuple(sorted(own_round(trace) for trace in traces)), None if word is None else tuple(word))
        found[key] = found.get(key, 0) + weight
    return {key: weight for key, weight in found.items() if weight != 0}


def listed(told):
    """The triples of a dict of terms, as a formula must tell them."""
    return tuple((told[key], *key) for key in sorted(told, key=lambda key: (key[0], key[1] or ())))


def drawn_string(draw, letters="abc", turned=True):
    return draw.choice(letters) + draw.choice(["", "'"] if turned else [""])


def drawn_word(draw, most=3, letters="abc", turned=True, least=0):
    return [drawn_string(draw, letters, turned) for _ in range(draw.randint(least, most))]


def drawn_triples(draw, is_table, most=5, great=5, letters="abc", turned=True):
    return [(draw.randint(-great, great), [drawn_word(draw, 3, letters, turned, 1) for _ in range(draw.randint(0, 3))],
             drawn_word(draw, 3, letters, turned) if is_table else None) for _ in range(draw.randint(0, most))]


def drawn_formula(draw, is_table, most=5, great=5, letters="abc", turned=True):
    return Formula(is_table, drawn_triples(draw, is_table, most, great, letters, turned))


def as_terms(formula):
    """The terms of a formula as a dict, as they stand there."""
    return {(traces, word): weight for weight, traces, word in formula.terms}


def drawn_table(draw, size, great=3):
    return [[draw.randint(-great, great) for _ in range(size)] for _ in range(size)]


def drawn_tables(draw, size, letters="abc", great=3):
    return {letter: drawn_table(draw, size, great) for letter in letters}


def own_unit(size):
    return [[int(row == column) for column in range(size)] for row in range(size)]


def own_over(table):
    return [list(column) for column in zip(*table)]


def own_product(one, other):
    size = len(one)
    return [[sum(one[i][j] * other[j][k] for j in range(size)) for k in range(size)] for i in range(size)]


def own_added(one, other):
    return [[a + b for a, b in zip(row, more)] for row, more in zip(one, other)]


def own_scaled(number, table):
    return [[number * entry for entry in row] for row in table]


def own_trace(table):
    return sum(table[k][k] for k in range(len(table)))


def word_product(word, tables, size):
    found = own_unit(size)
    for string in word:
        table = tables[string[0]]
        found = own_product(found, own_over(table) if string.endswith("'") else table)
    return found


def own_value(terms, is_table, tables, size):
    """The value, term by term, as a tuple of rows or an integer."""
    found = [[0] * size for _ in range(size)] if is_table else 0
    for weight, traces, word in terms:
        for trace in traces:
            weight = weight * own_trace(word_product(trace, tables, size))
        if is_table:
            found = own_added(found, own_scaled(weight, word_product(word, tables, size)))
        else:
            found = found + weight
    return tuple(tuple(row) for row in found) if is_table else found


def row_of(term):
    """The letters of a term, each as often as it comes, ascending."""
    _, traces, word = term
    strings = [string for trace in traces for string in trace] + list(word or ())
    return tuple(sorted(Counter(string[0] for string in strings).elements()))
