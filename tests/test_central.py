"""Central formulas, against drawn tables, and makings of the levelled formula multiplied out by the test's own."""

import random

from fromsize.central import Central, central
from fromsize.errors import BadFormula, BadNumber, Misfit, TooMany
from fromsize.formulas import Formula
from fromsize.one import cayley
from fromsize.pure import signed_sum
from fromsize.rules import Differs, rule
from tests.own import GREAT, ODD_VALUES, Case
from tests.own_formulas import bag, drawn_formula, drawn_tables, own_value
from tests.own_rules import LETTERS, are_own_tables, as_formula, changed, drawn_rule, fits, is_own_made, is_scalar
from tests.test_led import NO_FORMULAS
from tests.test_rules import NO_SIZES


def own_levelled(formula, size):
    """The levelled formula, term by term."""
    terms = []
    for weight, traces, word in formula.terms:
        if word != ():
            terms += [(size * weight, traces, word), (-weight, list(traces) + [word], ())]
    return as_formula(True, bag(terms))


def is_scalar_at(draw, formula, size, times=5):
    """Whether the value is a number times the unit table for some drawn tables."""
    return all(is_scalar(own_value(formula.terms, True, drawn_tables(draw, size, LETTERS), size)) for _ in range(times))


def drawn_numbers(draw):
    """A number times the unit table: a few traces, with an empty word."""
    return drawn_formula(draw, False, 2, 3, "ab", False) * Formula.of([])


def drawn_central(draw, size, letters="abc"):
    """A formula that is central at the size, with a word at least: a rule, its numbers taken away, others put beside it."""
    while True:
        told = drawn_rule(draw, size, True, draw.randint(1, 2), letters)
        formula = Formula(True, [term for term in told.terms if term[2] != ()])
        if formula.terms and fits(own_levelled(formula, size)):
            return formula + drawn_numbers(draw)


class CentralCase(Case):
    def asked(self, formula, size, want=None):
        """The paper, shown by the test's own; want tells which one it must be."""
        paper = central(formula, size)
        self.assertEqual(central(size=size, formula=formula), paper)
        if paper:
            self.assertIs(type(paper), Central)
            self.assertEqual((paper.word, paper.parts), ("central", (paper.lots,)))
            self.assertTrue(is_own_made(own_levelled(formula, size), size, paper.lots))
        else:
            self.assertIs(type(paper), Differs)
            self.assertTrue(are_own_tables(formula, size, paper.tables))
            self.assertFalse(is_scalar(own_value(formula.terms, True, dict(paper.tables), size)))
        if want is not None:
            self.assertIs(bool(paper), want)
        return paper


class CentralTest(CentralCase):
    def test_drawn_central_formulas(self):
        draw = random.Random(1)
        for size in (1, 2, 3, 4):
            for _ in range(8 if size < 4 else 3):
                formula = drawn_central(draw, size)
                self.assertTrue(is_scalar_at(draw, formula, size, 2))
                self.asked(formula, size, True)
                self.asked(formula + Formula.of(["a", "z"]).times(GREAT), size, size == 1)
                weight, traces, word = draw.choice([term for term in formula.terms if term[2] != ()])
                other = changed(formula, {(traces, word): 1})
                self.asked(other, size, is_scalar_at(draw, other, size))

    def test_drawn_formulas(self):
        draw = random.Random(2)
        for number in range(40):
            formula = drawn_formula(draw, True, 5, 3, "ab"[:1 + number % 2], False)
            for size in (1, 2, 3, 8):
                levelled = own_levelled(formula, size)
                if fits(levelled) and all(len(row) <= 5 for row in self.rows(levelled)):
                    self.asked(formula, size, is_scalar_at(draw, formula, size))

    def rows(self, formula):
        return [[string for told in [*traces, word] for string in told] for _, traces, word in formula.terms]

    def test_told_in_the_document(self):
        apart = Formula.of(["a", "b"]) - Formula.of(["b", "a"])
        self.asked(apart * apart, 2, True)
        self.asked(apart * apart, 3, False)
        self.asked(apart, 1, True)
        self.asked(apart, 2, False)
        paper = self.asked(Formula.read("table : 1 a / 7 ( b )"), 2, False)
        self.assertEqual([letter for letter, _ in paper.tables], ["a", "b"])
        more = Formula.of(["c", "d"]) - Formula.of(["d", "c"])
        self.asked(signed_sum(["a", "b", "c"]), 2, False)
        self.assertTrue(is_scalar_at(random.Random(3), apart * more + more * apart, 2))
        self.asked(apart * more + more * apart, 2, True)
        self.asked(apart * more, 2, False)

    def test_terms_with_an_empty_word_alone(self):
        draw = random.Random(4)
        for size in range(1, 9):
            self.assertEqual(self.asked(Formula(True, []), size, True), Central(()))
            self.assertEqual(self.asked(Formula.read("table : 2 ( a )"), size, True), Central([]))
            self.assertEqual(self.asked(drawn_numbers(draw), size, True), Central([]))
        # Such terms are never led to sums, so they may be as great as they like.
        great = Formula(True, [(1, [["a"] * 9], []), (3, [list("abcdefgh")] * 3, [])])
        self.assertEqual(self.asked(great, 4, True), Central([]))
        self.asked(great + Formula.of(["a"]), 1, True)
        self.asked(great + Formula.of(["a"]), 2, False)

    def test_the_levelled_formula_is_a_rule(self):
        draw = random.Random(5)
        for size in (1, 2, 3):
            for _ in range(6):
                formula = drawn_central(draw, size) if draw.random() < 0.5 else drawn_formula(draw, True, 3, 3, "a", False)
                levelled = own_levelled(formula, size)
                if fits(levelled) and all(len(row) <= 5 for row in self.rows(levelled)):
                    self.assertIs(bool(central(formula, size)), bool(rule(levelled, size)))

    def test_rules_are_central(self):
        for size in (1, 2, 3, 4):
            formula = cayley([[letter] for letter in "abcd"[:size]])
            self.asked(formula, size, True)
            self.asked(formula, size + 1, False)


class ErrorsTest(CentralCase):
    def test_refused(self):
        formula = Formula.of(["a"])
        for value in NO_FORMULAS:
            self.refused(BadFormula("formula"), central, value, 2)
            self.refused(BadFormula("formula"), central, value, 0)
        for size in NO_SIZES + ODD_VALUES:
            self.refused(BadNumber("size"), central, formula, size)
            self.refused(BadNumber("size"), central, Formula(False, [(1, [["a", "b'"] * 9], None)]), size)

    def test_the_first_of_several(self):
        turned = [["a", "b'"] * 5]
        for number in (Formula(False, []), Formula(False, [(3, [], None)]), Formula(False, [(1, turned, None)]),
                       Formula(False, [(1, [["a"] * 9], None)])):
            self.refused(Misfit("kinds"), central, number, 2)
            self.refused(BadNumber("size"), central, number, 9)
        for table in (Formula.of(["a'"]), Formula.of(["a"] * 9) + Formula.of(["b'"]), Formula(True, [(1, turned, ["a"])]),
                      Formula(True, [(1, turned, [])])):
            self.refused(Misfit("turned"), central, table, 2)
        self.refused(TooMany("letters", 5), central, Formula.of(["a"] * 6), 2)
        self.refused(TooMany("letters", 5), central, Formula(True, [(1, [list("abcde")], ["f"])]), 1)
        self.asked(Formula.of(list("abcde")), 2, False)

    def test_too_many_ways_to_deal_of_the_levelled_formula(self):
        """Each term comes twice there, but for what the traces have in common."""
        cuts = ((), (1,), (2,), (3,), (4,), (1, 1), (1, 2), (1, 3), (2, 2), (1, 1, 1), (1, 1, 2), (1, 1, 1, 1))
        terms = [(1, [["a"] * part for part in cut], ["a"] * (5 - sum(cut))) for cut in cuts]
        for many in range(1, len(terms) + 1):
            formula = Formula(True, terms[:many])
            levelled = own_levelled(formula, 2)
            if len(levelled.terms) * 120 > 2000:
                self.refused(TooMany("copies", 2000), central, formula, 2)
                if many * 120 <= 2000:
                    rule(formula, 2)
            else:
                self.asked(formula, 2)
        self.assertGreater(len(levelled.terms) * 120, 2000)
        long = Formula.of(["b"] * 6)
        self.refused(TooMany("copies", 2000), central, formula + long, 2)
        self.refused(TooMany("letters", 5), central, formula.with_word("a", ["c"]) + long, 2)
