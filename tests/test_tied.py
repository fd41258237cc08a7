"""Ties of lots, against all ways to deal done by the test."""

import random
from itertools import product

from fromsize.errors import BadFormula, Misfit, TooMany
from fromsize.formulas import Formula
from fromsize.led import sum_of
from fromsize.tie_sums import TieSum
from fromsize.tie_written import judged_ties
from fromsize.tied import tie_sum_of
from fromsize.values import value_of
from tests.own import Case
from tests.own_formulas import bag, drawn_tables, listed
from tests.own_ties import numbers_taken, ties_dict
from tests.test_led import NO_FORMULAS, cut, drawn_lot, drawn_rows, own_copies, own_dealings


def own_tie_sum(lot, row):
    """The ties of a lot, as a dict: the end behind of each place tied to the first end of the next one."""
    found = {}
    last = 2 * (len(row) + lot.is_table) - 1
    for term in lot.terms:
        for rounds in own_dealings(term, row):
            pairs = []
            for told in rounds:
                # Of each place the first end and the end behind.
                both = [(wire, last - wire) if "'" in string else (last - wire, wire) for string, wire in told]
                pairs += [(end[1], both[(at + 1) % len(both)][0]) for at, end in enumerate(both)]
            partners = dict(pairs + [(other, one) for one, other in pairs])
            ties = tuple(partners[end] for end in range(last + 1))
            found[ties] = found.get(ties, 0) + term[0]
    return {ties: (weight,) for ties, weight in found.items() if weight != 0}


class TiesTest(Case):
    def test_against_all_ways_to_deal(self):
        draw = random.Random(1)
        for is_table, most in ((True, 4), (False, 5)):
            for row in drawn_rows(draw, most):
                for _ in range(4):
                    lot = drawn_lot(draw, row, is_table, 4, True)
                    total = tie_sum_of(lot=lot)
                    self.assertEqual(total.ends, 2 * (len(row) + is_table))
                    self.assertEqual(ties_dict(total), own_tie_sum(lot, row))

    def test_without_turned_letters(self):
        draw = random.Random(2)
        for is_table, most in ((True, 4), (False, 5)):
            for row in drawn_rows(draw, most):
                lot = drawn_lot(draw, row, is_table)
                self.assertEqual(tie_sum_of(lot), TieSum.wired(sum_of(lot)))

    def test_single_terms(self):
        for terms, is_table, want in (([["a"]], False, (1, 0)), ([["a", "b'"]], False, (1, 0, 3, 2)), ([["a", "b"]], False, (2, 3, 0, 1)),
                                      ([["a"], ["b"]], False, (3, 2, 1, 0))):
            self.assertEqual(tie_sum_of(Formula(is_table, [(1, terms, None)])), TieSum.of(want))
        self.assertEqual(tie_sum_of(Formula.of(["a"])), TieSum.of((2, 3, 0, 1)))
        self.assertEqual(tie_sum_of(Formula.of(["a'"])), TieSum.of((1, 0, 3, 2)))
        self.assertEqual(tie_sum_of(Formula(True, [(5, [], [])])), TieSum(2, [((5,), (1, 0))]))
        self.assertEqual(tie_sum_of(Formula(False, [(3, [["a", "a'"]], None)])), TieSum(4, [((6,), (1, 0, 3, 2))]))

    def test_values(self):
        """A lot at drawn tables, times its copies: what its ties take, times entries, each in the row of its wire's bottom."""
        draw = random.Random(3)
        for size, most in ((1, 5), (2, 4), (3, 3)):
            for row in drawn_rows(draw, most):
                lot = drawn_lot(draw, row, False, 4, True)
                tables = drawn_tables(draw, size, "abcz")
                total, want, ends = tie_sum_of(lot), 0, 2 * len(row)
                for setting in product(range(size), repeat=ends):
                    number = numbers_taken(total, setting, size)
                    if number:
                        for wire, letter in enumerate(row):
                            number *= tables[letter][setting[ends - 1 - wire]][setting[wire]]
                        want += number
                self.assertEqual(value_of(lot, tables, size) * own_copies(row), want)

    def test_values_of_table_formulas(self):
        """The mark is a letter more: the trace of the value times any table."""
        draw = random.Random(4)
        for size, row in ((2, ("a", "b")), (2, ("a", "a")), (3, ("a",)), (2, ("a", "a", "b")), (3, ("b", "b"))):
            lot = drawn_lot(draw, row, True, 4, True)
            tables = drawn_tables(draw, size, "abz")
            total, want, ends = tie_sum_of(lot), 0, 2 * len(row) + 2
            for setting in product(range(size), repeat=ends):
                number = numbers_taken(total, setting, size)
                for wire, letter in enumerate(row + ("z",)):
                    number *= tables[letter][setting[ends - 1 - wire]][setting[wire]]
                want += number
            value = value_of(lot, tables, size)
            trace = sum(value[i][j] * tables["z"][j][i] for i in range(size) for j in range(size))
            self.assertEqual(trace * own_copies(row), want)

    def test_nothing_just_where_the_ties_are(self):
        """A table of two rows less itself turned over is a number times one and the same table."""
        even = Formula.read("table : 1 a / -1 a'")
        both = Formula.read("table : 1 a b / -1 a b' / -1 a' b / 1 a' b' / -1 b a / 1 b a' / 1 b' a / -1 b' a'")
        self.assertEqual([bool(judged_ties(tie_sum_of(even), size)) for size in (1, 2, 3)], [True, False, False])
        self.assertEqual([bool(judged_ties(tie_sum_of(both), size)) for size in (1, 2, 3)], [True, True, False])
        draw = random.Random(5)
        for lot, size in ((even, 1), (even, 2), (both, 2), (both, 3)):
            zero = ((0,) * size,) * size
            told = all(value_of(lot, drawn_tables(draw, size), size) == zero for _ in range(12))
            self.assertIs(bool(judged_ties(tie_sum_of(lot), size)), told)


class RefusedTest(Case):
    def test_in_their_order(self):
        for value in NO_FORMULAS:
            self.refused(BadFormula("lot"), tie_sum_of, value)
        bad = [Formula(True, []), Formula(False, []), Formula.of(["a"]) + Formula.of(["b"]), Formula.of([]) + Formula.of(["a'"]),
               Formula.of(["a"] * 9) + Formula.of(["a'"] * 8), Formula(False, [(1, [], None), (1, [["a"]], None)])]
        for lot in bad:
            self.refused(Misfit("lot"), tie_sum_of, lot)
        self.refused(Misfit("letters"), tie_sum_of, Formula(False, [(4, [], None)]))

    def test_too_many_letters(self):
        for word in (["a"] * 6, ["a'"] * 6, list("abcdef"), ["a", "b'", "c", "d", "e", "f"]):
            self.refused(TooMany("letters", 5), tie_sum_of, Formula(False, [(1, [word], None)]))
            self.refused(TooMany("letters", 4), tie_sum_of, Formula.of(word))
            self.refused(TooMany("letters", 4), tie_sum_of, Formula.of(word[1:]))
            self.assertEqual(tie_sum_of(Formula(False, [(1, [word[1:]], None)])).ends, 10)
            self.assertEqual(tie_sum_of(Formula.of(word[2:])).ends, 10)

    def test_too_many_ways_to_deal(self):
        draw = random.Random(6)
        terms = []
        while len(bag(terms)) < 17:
            strings = ["a" + draw.choice(["", "'"]) for _ in range(5)]
            terms = listed(bag([*terms, (1, *cut(draw, strings, False)[1:])]))
        total = tie_sum_of(Formula(False, terms[:16]))
        self.assertEqual(sum(weight[0] for weight, _ in total.terms), sum(weight for weight, _, _ in terms[:16]) * 120)
        self.refused(TooMany("copies", 2000), tie_sum_of, Formula(False, terms))
