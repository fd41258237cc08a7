"""Lots of formulas with letters turned over, and the sums of ties that they are led to."""

from fromsize.led import deals_of, letters_of, need_few_letters, places_behind, rounds_of_term, wires_of
from fromsize.tie_sums import TieSum
from fromsize.ties import MOST_ENDS
from fromsize.words import is_turned


def tie_sum_of(lot):
    """The ties of the lot: for each term those of all ways to deal wires to it."""
    row = letters_of(lot)
    need_few_letters(lot, row, MOST_ENDS // 2)
    wires = wires_of(lot, row)
    pairs = []
    for term in lot.terms:
        rounds = rounds_of_term(term)
        strings = [string for word in rounds for string in word]
        after = places_behind(rounds)
        for deal in deals_of(rounds, wires):
            pairs.append(((term[0],), ties_dealt_to(strings, deal, after)))
    return TieSum(2 * len(wires), pairs)


def ties_dealt_to(strings, deal, after):
    """The ties in which the end behind of each place is tied to the first end of the next place."""
    last = 2 * len(deal) - 1
    row = [0] * (last + 1)
    for place, wire in enumerate(deal):
        # A letter turned over has its top first and its bottom behind.
        behind = last - wire if is_turned(strings[place]) else wire
        then = deal[after[place]]
        first = then if is_turned(strings[after[place]]) else last - then
        row[behind] = first
        row[first] = behind
    return tuple(row)
