"""Formulas: sums of products of tables and of traces, each with a weight."""

from fromsize.checks import is_integer, is_list
from fromsize.errors import BadFormula, BadNumber, BadWord, Misfit, TooMany
from fromsize.formula_texts import formula_items, kind_read, terms_read
from fromsize.sums import MOST_PRODUCTS
from fromsize.words import is_letter, is_word, least_word, need_word, turned_over


class Formula:
    """Terms, each with a weight and traces, in a table formula also with a word."""

    def __init__(self, is_table, terms):
        if not isinstance(is_table, bool):
            raise BadFormula("is_table")
        if not are_triples(terms, is_table):
            raise BadFormula("terms")
        self.is_table = is_table
        self.terms = terms_gathered(terms)
        self.letters = letters_in(self.terms)

    @staticmethod
    def of(word):
        """The table formula that is this word."""
        return Formula(True, [(1, (), need_word(word, "word"))])

    @staticmethod
    def read(text):
        """The formula whose text this is."""
        items, is_table = kind_read(text)
        return Formula(is_table, terms_read(items, is_table))

    def __eq__(self, other):
        return isinstance(other, Formula) and self.is_table == other.is_table and self.terms == other.terms

    def __str__(self):
        return " ".join(formula_items(self.is_table, self.terms))

    def __add__(self, other):
        if not isinstance(other, Formula):
            return NotImplemented
        need_same_kind(self, other)
        return Formula(self.is_table, self.terms + other.terms)

    def __sub__(self, other):
        if not isinstance(other, Formula):
            return NotImplemented
        need_same_kind(self, other)
        less = [(-weight, traces, word) for weight, traces, word in other.terms]
        return Formula(self.is_table, self.terms + tuple(less))

    def __mul__(self, other):
        if not isinstance(other, Formula):
            return NotImplemented
        if len(self.terms) * len(other.terms) > MOST_PRODUCTS:
            raise TooMany("products", MOST_PRODUCTS)
        products = [(weight * more, traces + others, words_joined(word, then))
                    for weight, traces, word in self.terms for more, others, then in other.terms]
        return Formula(self.is_table or other.is_table, products)

    def times(self, number):
        """The formula taken so many times."""
        if not is_integer(number):
            raise BadNumber("number")
        return Formula(self.is_table, [(number * weight, traces, word) for weight, traces, word in self.terms])

    def turned(self):
        """The formula with the words of its terms turned over; a number formula stays."""
        if not self.is_table:
            return self
        return Formula(True, [(weight, traces, turned_over(word)) for weight, traces, word in self.terms])

    def trace(self):
        """The number formula of the traces of a table formula."""
        if not self.is_table:
            raise Misfit("kinds")
        if any([word == () for _, _, word in self.terms]):
            raise Misfit("unit")
        return Formula(False, [(weight, traces + (word,), None) for weight, traces, word in self.terms])

    def with_word(self, letter, word):
        """The formula with the word in the place of each such letter."""
        if not is_letter(letter):
            raise BadWord("letter")
        put = need_word(word, "word")
        terms = [(weight, tuple([word_put(trace, letter, put) for trace in traces]), word_put(told, letter, put))
                 for weight, traces, told in self.terms]
        if any([() in traces for _, traces, _ in terms]):
            raise Misfit("unit")
        return Formula(self.is_table, terms)


def are_triples(value, is_table):
    """Whether a value is a list of the triples of a table formula, or of a number formula."""
    if not is_list(value) or not all([is_list(triple) and len(triple) == 3 for triple in value]):
        return False
    if not all([is_integer(weight) and are_traces(traces) for weight, traces, _ in value]):
        return False
    return all([is_word(word) if is_table else word is None for _, _, word in value])


def are_traces(value):
    """Whether a value is a list of words with a letter at least."""
    return is_list(value) and all([is_word(word) and len(word) > 0 for word in value])


def terms_gathered(triples):
    """The terms as a formula tells them: traces by their least words, like terms added, ascending."""
    leasts = {}
    weights = {}
    for weight, told, word in triples:
        traces = [tuple(trace) for trace in told]
        for trace in traces:
            if trace not in leasts:
                leasts[trace] = least_word(trace)
        term = (tuple(sorted([leasts[trace] for trace in traces])), None if word is None else tuple(word))
        weights[term] = weights.get(term, 0) + weight
    return tuple([(weights[term], term[0], term[1]) for term in sorted(weights) if weights[term] != 0])


def letters_in(terms):
    """The letters of the terms, ascending, without strokes."""
    found = {}
    for _, traces, word in terms:
        for told in traces + (() if word is None else (word,)):
            for string in told:
                found[string[0]] = True
    return tuple(sorted(found))


def need_formula(value, part):
    """Refuse what is no formula."""
    if not isinstance(value, Formula):
        raise BadFormula(part)


def need_same_kind(one, other):
    """Refuse a table formula and a number formula."""
    if one.is_table != other.is_table:
        raise Misfit("kinds")


def words_joined(word, then):
    """The one word with the other one behind it; None stands for a term that has none."""
    if word is None:
        return then
    return word if then is None else word + then


def word_put(word, letter, put):
    """The word with another one in the place of each such letter; None stays."""
    if word is None:
        return None
    turned = turned_over(put)
    found = []
    for string in word:
        if string[0] != letter:
            found.append(string)
        else:
            found.extend(list(put if string == letter else turned))
    return tuple(found)
