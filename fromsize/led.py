"""Lots of formulas, the sums of wirings that they are led to, and back."""

from math import factorial

from fromsize.errors import BadWord, Misfit, TooMany
from fromsize.formulas import Formula, need_formula
from fromsize.sums import Sum, need_sum
from fromsize.wirings import MOST_WIRES, rounds_of
from fromsize.words import is_turned, is_word

MOST_COPIES = 2000
MARK = "*"


def lots(formula):
    """The lots of the formula, by their rows of letters, ascending."""
    need_formula(formula, "formula")
    found = {}
    for term in formula.terms:
        found.setdefault(letters_of_term(term), []).append(term)
    return tuple([Formula(formula.is_table, found[row]) for row in sorted(found)])


def copies(lot):
    """How often each letter comes in a term, 1, 2, 3 and so on up to this, all multiplied."""
    return copies_of(letters_of(lot))


def letters_of(lot):
    """The row of letters of a lot."""
    need_formula(lot, "lot")
    rows = sorted([letters_of_term(term) for term in lot.terms])
    if len(rows) == 0 or rows[0] != rows[-1]:
        raise Misfit("lot")
    return rows[0]


def sum_of(lot):
    """The sum of the lot: for each term the wirings of all ways to deal wires to it."""
    row = letters_of(lot)
    if any([is_turned(string) for term in lot.terms for string in strings_of(term)]):
        raise Misfit("turned")
    need_few_letters(lot, row, MOST_WIRES)
    wires = wires_of(lot, row)
    pairs = []
    for term in lot.terms:
        rounds = rounds_of_term(term)
        after = places_behind(rounds)
        for deal in deals_of(rounds, wires):
            pairs.append((term[0], wiring_dealt(deal, after)))
    return Sum(len(wires), pairs)


def formula_of(total, letters, is_table):
    """The formula that comes back of a sum with these letters on its wires."""
    need_sum(total, "total")
    if not is_word(letters):
        raise BadWord("letters")
    if len(letters) != (total.wires - 1 if is_table else total.wires):
        raise Misfit("letters")
    return Formula(bool(is_table), [term_of(weight, row, letters, is_table) for weight, row in total.terms])


def strings_of(term):
    """The strings of the traces and of the word of a term."""
    _, traces, word = term
    found = [string for trace in traces for string in trace]
    return found if word is None else found + list(word)


def letters_of_term(term):
    """The letters of a term, without strokes, each as often as it comes, ascending."""
    return tuple(sorted([string[0] for string in strings_of(term)]))


def copies_of(row):
    """The copies of a lot with this row of letters."""
    found = 1
    for letter in sorted(set(row)):
        found = found * factorial(row.count(letter))
    return found


def need_few_letters(lot, row, most):
    """Refuse a lot that has no wires, or needs more than most of them, or has too many ways to deal."""
    if not lot.is_table and row == ():
        raise Misfit("letters")
    letters = most - 1 if lot.is_table else most
    if len(row) > letters:
        raise TooMany("letters", letters)
    if len(lot.terms) * copies_of(row) > MOST_COPIES:
        raise TooMany("copies", MOST_COPIES)


def wires_of(lot, row):
    """The letter of each wire of a lot with this row of letters."""
    return row + (MARK,) if lot.is_table else row


def rounds_of_term(term):
    """The words of a term that are read round: its traces, and its word with the mark behind it."""
    _, traces, word = term
    return traces if word is None else traces + (word + (MARK,),)


def places_behind(rounds):
    """For each place of these words, all of them counted on, the place to which it goes on."""
    found = []
    for word in rounds:
        first = len(found)
        found.extend([first + (at + 1) % len(word) for at in range(len(word))])
    return found


def deals_of(rounds, wires):
    """All ways to give each place of these words a wire that has its letter, each wire once."""
    deals = [()]
    for word in rounds:
        for string in word:
            deals = [deal + (wire,) for deal in deals for wire, letter in enumerate(wires)
                     if letter == string[0] and wire not in deal]
    return deals


def wiring_dealt(deal, after):
    """The wiring in which the wire of each place goes on to that of the place behind it."""
    row = [0] * len(deal)
    for place, wire in enumerate(deal):
        row[wire] = deal[after[place]]
    return tuple(row)


def term_of(weight, row, letters, is_table):
    """The term that a wiring tells, with these letters on its wires."""
    walks = rounds_of(row)
    if not is_table:
        return weight, [word_on(walk, letters) for walk in walks], None
    # The last wire has no letter: its round tells the word, from the wire to which it goes on.
    last = len(row) - 1
    ahead = [row[last]]
    while ahead[-1] != last:
        ahead.append(row[ahead[-1]])
    traces = [word_on(walk, letters) for walk in walks if last not in walk]
    return weight, traces, word_on(ahead[:-1], letters)


def word_on(walk, letters):
    """The letters on these wires, one behind another."""
    return [letters[wire] for wire in walk]
