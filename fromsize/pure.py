"""Rules without traces: signed sums of words, and the rules in which each letter comes once."""

from math import factorial

from fromsize.checks import is_within
from fromsize.errors import BadNumber, TooMany
from fromsize.falls import both_settings
from fromsize.formulas import Formula
from fromsize.kept import kept
from fromsize.ranks import cleared, rank
from fromsize.values import need_formula_size
from fromsize.wirings import all_wirings, led_to, signed_wirings
from fromsize.words import LETTERS, need_word

MOST_SIGNED = 6
MOST_COUNTED = 5
MOST_LISTED = 4


def signed_sum(letters):
    """The signed sum of this word."""
    word = need_word(letters, "letters")
    if len(word) > MOST_SIGNED:
        raise TooMany("letters", MOST_SIGNED)
    return Formula(True, [(sign, (), [word[place] for place in row]) for sign, row in signed_wirings(len(word))])


def pure_many(many, size):
    """How many independent pure rules of so many letters there are at this size."""
    need_letters_many(many, size, MOST_COUNTED)
    if is_too_short(many, size):
        return 0
    return factorial(many) - rank(leading_rows(many, size))


def pure_list(many, size):
    """The pure rules in each of which a word hangs on lesser ones, by these words, ascending."""
    need_letters_many(many, size, MOST_LISTED)
    if is_too_short(many, size):
        return ()
    words = all_wirings(many)
    heads = []
    found = []
    for place, row in enumerate(leading_rows(many, size)):
        # Behind its own integers each row tells of which words it is made up, each so many times.
        rest = row + [1 if at == place else 0 for at in range(len(words))]
        for at, head in heads:
            rest = cleared(rest, head, at)
        filled = [at for at in range(len(row)) if rest[at] != 0]
        if len(filled) > 0:
            heads.append((filled[0], rest))
        else:
            found.append(rule_of(rest[len(row):], words, place))
    return tuple(found)


def backwards(word):
    """The strings of the word in the other order."""
    return need_word(word, "word")[::-1]


def need_letters_many(many, size, most):
    """Refuse what is no number of letters, what is no size of formulas, and more letters than most."""
    if not is_within(many, 1, None):
        raise BadNumber("many")
    need_formula_size(size)
    if many > most:
        raise TooMany("letters", most)


def is_too_short(many, size):
    """Whether words of so many letters are too short: without traces no shorter ones make a rule."""
    return many < 2 * size


def leading_rows(many, size):
    """For each word of so many letters, ascending: for each kept wiring 1 if the word leads its settings, else 0.

    Words, each so many times, are a rule just if these rows, as many times each, add up to zeros.
    """
    settings = [both_settings(row) for row in kept(many + 1, size)]
    rows = []
    for order in all_wirings(many):
        wiring = word_wiring(order)
        rows.append([1 if led_to(wiring, tops) == bottoms else 0 for tops, bottoms in settings])
    return rows


def word_wiring(order):
    """The wiring of a word with the mark behind it, a letter on each wire, the mark on the last one."""
    row = [0] * (len(order) + 1)
    walk = (len(order),) + order
    for place, wire in enumerate(walk):
        row[walk[place - 1]] = wire
    return tuple(row)


def rule_of(weights, words, place):
    """The pure rule with these weights, turned so that the one at this place is above 0."""
    sign = 1 if weights[place] > 0 else -1
    terms = [(sign * weight, (), [LETTERS[at] for at in word]) for weight, word in zip(weights, words)]
    return Formula(True, terms)
