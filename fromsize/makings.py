"""Makings of lots: words put into the one rule, beside traces."""

from fromsize.checks import is_integer, is_list
from fromsize.formulas import terms_gathered
from fromsize.led import MARK, copies, letters_of, rounds_of_term, sum_of, wires_of, word_on
from fromsize.one import signed_rounds, words_round
from fromsize.small_lots import has_wires, letters_many
from fromsize.steps import MOST_STEPS, taken_out
from fromsize.wirings import rounds_of, sign_of
from fromsize.words import is_letter, least_word
from fromsize.written import latest_settings


def makings_or_units(told, size):
    """The list of makings of each of these lots, and None; or None, and the units of one that is no rule.

    Lots with the most letters are asked first. So of those that are no rules the
    first one is told, and no other one has all of its letters as often or oftener.
    """
    found = {}
    for lot in sorted(told, key=letters_many, reverse=True):
        if not has_wires(lot):
            return None, []
        wires = wires_of(lot, letters_of(lot))
        writing, steps = taken_out(sum_of(lot), size)
        if len(writing) > 0:
            tops, bottoms = latest_settings(writing)
            return None, units_on(wires, bottoms, tops)
        found[letters_of(lot)] = [making_of(step, wires) for step in steps]
    return [found[letters_of(lot)] for lot in told], None


def units_on(wires, rows, columns):
    """The unit of each wire with a letter, at a row and a column: triples."""
    return [(letter, row, column) for letter, row, column in zip(wires, rows, columns) if letter != MARK]


def making_of(step, wires):
    """The making that a step of the sum of a lot is, with these letters and the mark on the wires."""
    weight, row, tops = step
    # From each of the tops a word is gone through till the next one of them; these tell its wiring.
    walks = [walk_to(row, top, tops) for top in tops]
    ways = [tops.index(walk[-1]) for walk in walks]
    rest = [walk for walk in rounds_of(row) if not any([top in walk for top in tops])]
    traces = [word_on(walk, wires) for walk in rest]
    return weight * sign_of(ways), traces, [word_on(walk, wires) for walk in walks]


def walk_to(row, start, tops):
    """The wires behind this one, up to the first whose top is one of these."""
    walk = [row[start]]
    while walk[-1] not in tops:
        walk.append(row[walk[-1]])
    return walk


def are_makings(value, lot, size):
    """Whether a value is a list of makings that make the lot at this size."""
    if not is_list(value) or len(value) > MOST_STEPS:
        return False
    wires = sorted(wires_of(lot, letters_of(lot)))
    if not all([is_making(making, wires, size) for making in value]):
        return False
    return terms_gathered(terms_made(value)) == terms_gathered(terms_meant(lot))


def is_making(value, wires, size):
    """Whether a value is a making with just the letters, and the mark, of these wires, ascending."""
    if not is_list(value) or len(value) != 3:
        return False
    weight, traces, words = value
    if not is_integer(weight) or weight == 0 or not are_marked_words(traces) or not are_marked_words(words):
        return False
    if len(words) != size + 1:
        return False
    return sorted([string for told in (traces, words) for word in told for string in word]) == wires


def are_marked_words(value):
    """Whether a value is a list of words with a string at least, each a letter as it is, or the mark."""
    if not is_list(value) or not all([is_list(word) and len(word) > 0 for word in value]):
        return False
    return all([is_letter(string) or is_mark(string) for word in value for string in word])


def is_mark(value):
    """Whether a value is the mark that stands behind the word of a term."""
    return isinstance(value, str) and value == MARK


def terms_made(makings):
    """The terms of what these makings, all with as many words, make.

    The one rule of words is that of the same words in any order: so makings that
    differ in the order of words and traces alone are multiplied out at once.
    """
    weights = {}
    for weight, traces, words in makings:
        leasts = tuple(sorted([least_word(tuple(trace)) for trace in traces]))
        place = (leasts, tuple(sorted([tuple(word) for word in words])))
        weights[place] = weights.get(place, 0) + weight
    # Without makings no rounds are asked for: of nine words they would be many.
    rounds = signed_rounds(len(makings[0][2])) if len(makings) > 0 else []
    terms = []
    for (traces, words), weight in weights.items():
        for sign, walks in rounds:
            terms.append((sign * weight, traces + tuple(words_round(walks, words)), None))
    return terms


def terms_meant(lot):
    """The terms of the lot times its copies; each word read round with the mark behind it."""
    many = copies(lot)
    return [(many * term[0], rounds_of_term(term), None) for term in lot.terms]
