"""The one rule of each size: words on wires that are crossed in all ways, and its table form."""

from fromsize.checks import is_list
from fromsize.errors import BadWord, Misfit, TooMany
from fromsize.formulas import Formula
from fromsize.wirings import MOST_WIRES, rounds_of, signed_wirings
from fromsize.words import is_word


def one_rule(words):
    """The one rule of these words."""
    need_words(words)
    need_many(words, 2, MOST_WIRES)
    return Formula(False, [(sign, words_round(walks, words), None) for sign, walks in signed_rounds(len(words))])


def cayley(words):
    """The table form of the one rule of these words and one ahead of them, which is left out."""
    need_words(words)
    need_many(words, 1, MOST_WIRES - 1)
    told = [()] + [tuple(word) for word in words]
    # The first round is that of the word that is left out: it leaves the product of those behind it.
    return Formula(True, [(sign, words_round(walks[1:], told), words_round(walks[:1], told)[0])
                          for sign, walks in signed_rounds(len(told))])


def need_words(value):
    """Refuse what is no list of words with a string at least."""
    if not is_list(value) or not all([is_word(word) and len(word) > 0 for word in value]):
        raise BadWord("words")


def need_many(words, least, most):
    """Refuse less words than the least number of them, and more than the most."""
    if len(words) < least:
        raise Misfit("words")
    if len(words) > most:
        raise TooMany("words", most)


def signed_rounds(many):
    """The rounds of all wirings of so many wires, each behind the sign of its wiring."""
    return [(sign, rounds_of(row)) for sign, row in signed_wirings(many)]


def words_round(walks, words):
    """For each of these rounds its words, one behind the other."""
    return [tuple([string for place in walk for string in words[place]]) for walk in walks]
