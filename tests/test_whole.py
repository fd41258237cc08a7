"""What the document promises over the whole program: sums, ties, formulas, measures and rules tell the same."""

import random

from fromsize.central import central
from fromsize.check_classes import shows_commutes
from fromsize.check_measures import shows_steady, shows_unchanged
from fromsize.check_rules import shows_central, shows_rule, shows_turned_rule
from fromsize.check_ties import shows_judged_ties
from fromsize.check_written import shows_judged, shows_written
from fromsize.classes import commutes
from fromsize.crossings import crossing
from fromsize.errors import BadText
from fromsize.formulas import Formula
from fromsize.led import formula_of, sum_of
from fromsize.measures import Measure, measure_of, measure_of_ties
from fromsize.rules import rule
from fromsize.sums import Sum
from fromsize.tie_sizes import sizes_nothing
from fromsize.tie_sums import TieSum
from fromsize.tie_written import judged_ties
from fromsize.tied import tie_sum_of
from fromsize.turned_rules import from_size, turned_rule
from fromsize.turns import steady
from fromsize.two import alike_at_two
from fromsize.unchanged import unchanged
from fromsize.written import judged, least_size, written, written_by
from tests.own import Case, drawn_row, drawn_sum, drawn_tops, is_nothing
from tests.own_formulas import drawn_formula
from tests.own_measures import drawn_measure
from tests.own_ties import drawn_tie_sum


def drawn_sums(draw, wires):
    """Crossings at so many tops, one or two added up, and sums that are something at once."""
    found = [Sum(wires, []), drawn_sum(draw, wires, 4)]
    for many in range(1, wires + 1):
        one, other = [crossing(drawn_row(draw, wires), drawn_tops(draw, wires, many)) for _ in range(2)]
        found += [one, one + other.times(-2)]
    return found


class LeastSizeTest(Case):
    def asked(self, total):
        """The least size at which the sum is something, by all that tells it."""
        wires, least = total.wires, least_size(total)
        below = range(1, 9) if least is None else range(1, least)
        ties = TieSum.wired(total) if wires < 6 else None
        formulas = [formula_of(total, list("abcdef")[:wires], False), formula_of(total, list("abcdef")[:wires - 1], True)]
        for formula in formulas:
            self.assertEqual(from_size(formula), least)
            if formula.terms:
                self.assertEqual(sum_of(formula), total)
            if formula.terms and wires < 6:
                self.assertEqual(tie_sum_of(formula), ties)
        if ties is not None:
            self.assertEqual(sizes_nothing(ties), None if least is None else tuple(below))
        for size in range(1, 9):
            nothing = size in below
            self.assertIs(bool(judged(total, size)), nothing)
            self.assertIs(len(written(total, size)) == 0, nothing)
            if ties is not None:
                self.assertIs(bool(judged_ties(ties, size)), nothing)
            for formula in formulas:
                self.assertIs(bool(rule(formula, size)), nothing)
                if wires < 6:
                    self.assertIs(bool(turned_rule(formula, size)), nothing)
            if wires < 6 and size < 5 and size ** wires <= 256:
                self.assertIs(measure_of(total, size).terms == (), nothing)
                self.assertIs(measure_of_ties(ties, size).terms == (), nothing)
            if size <= 3 and wires < 5:
                self.assertIs(is_nothing(total.terms, wires, size), nothing)

    def test_drawn_sums(self):
        draw = random.Random(1)
        for wires in (1, 2, 3, 4, 5, 6):
            for total in drawn_sums(draw, wires)[:10 if wires < 5 else 6]:
                self.asked(total)

    def test_words_at_two(self):
        """Alike for two rows exactly if the sums of what they differ by are nothing at size 2."""
        draw = random.Random(2)
        for is_table in (True, False):
            for wires in (2, 3, 4, 5):
                for size in (1, 2):
                    if size < wires:
                        total = crossing(drawn_row(draw, wires), drawn_tops(draw, wires, size + 1))
                        formula = formula_of(total, [draw.choice("ab") for _ in range(wires - is_table)], is_table)
                        told = [from_size(formula)]
                        self.assertIs(alike_at_two(formula, Formula(is_table, [])), told == [None] or told[0] > 2)


class TextsTest(Case):
    def test_each_class_reads_its_own(self):
        draw = random.Random(3)
        for _ in range(30):
            values = [drawn_sum(draw, draw.randint(1, 6)), drawn_tie_sum(draw, 2 * draw.randint(1, 5)), drawn_formula(draw, True),
                      drawn_formula(draw, False), drawn_measure(draw, draw.randint(1, 4), draw.randint(1, 4))]
            for value in values:
                text = str(value)
                self.assertEqual(type(value).read(text), value)
                self.assertEqual(str(type(value).read(text)), text)
                for kind in (Sum, TieSum, Formula, Measure):
                    if kind is not type(value) and len(text.split(" ")) > 3:
                        with self.assertRaises(BadText):
                            kind.read(text)
                for bent in (text + " ", " " + text, text + " /", text.replace(" ", "  ", 1), text[:-1] + "\n", text + " :"):
                    with self.assertRaises(BadText):
                        type(value).read(bent)
        for kind in (Sum, TieSum, Formula, Measure):
            for value in (None, 1, b"2 :", ["2", ":"], True):
                self.refused(BadText(0), kind.read, value)


class PapersTest(Case):
    def test_what_is_returned_is_shown(self):
        draw = random.Random(4)
        for wires in (1, 2, 3, 4):
            for total in drawn_sums(draw, wires):
                ties = TieSum.wired(total)
                number, table = formula_of(total, list("abcd")[:wires], False), formula_of(total, list("abc")[:wires - 1], True)
                for size in (1, 2, 3, 8):
                    self.assertTrue(shows_written(total, size, written_by(total, size)))
                    self.assertTrue(shows_judged(total, size, judged(total, size)))
                    self.assertTrue(shows_commutes(total, size, commutes(total, size)))
                    self.assertTrue(shows_judged_ties(ties, size, judged_ties(ties, size)))
                    for formula in (number, table):
                        self.assertTrue(shows_rule(formula, size, rule(formula, size)))
                        self.assertTrue(shows_turned_rule(formula, size, turned_rule(formula, size)))
                    self.assertTrue(shows_central(table, size, central(table, size)))
                    if size < 4:
                        measure = measure_of(total, size)
                        self.assertTrue(shows_unchanged(measure, unchanged(measure)))
                        self.assertTrue(shows_steady(measure, steady(measure)))
                        self.assertEqual(unchanged(measure).total, written(total, size))
