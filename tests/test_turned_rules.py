"""Rules with letters turned over, against drawn tables, and steps multiplied out by the test's own."""

import random
from itertools import product

from fromsize.errors import BadFormula, BadNumber, Misfit, TooMany
from fromsize.formulas import Formula
from fromsize.led import lots
from fromsize.one import one_rule
from fromsize.rules import Differs, Made, rule
from fromsize.tied import tie_sum_of
from fromsize.turned_rules import MadeTied, from_size, turned_rule
from tests.own import GREAT, ODD_VALUES, Case
from tests.own_formulas import drawn_formula
from tests.own_rules import changed, drawn_rule, is_nothing_at, is_own_something, own_copies, own_lots
from tests.own_turned import drawn_tied_rule, is_own_made_tied
from tests.test_led import NO_FORMULAS
from tests.test_rules import NO_SIZES


def fits(formula):
    """Whether no lot of the formula is too great for ties."""
    most = 4 if formula.is_table else 5
    return all(len(row) <= most for row, _ in own_lots(formula))


def has_turned(formula):
    """Whether a letter is turned over, asked of the items of the text."""
    return any(item.endswith("'") for item in str(formula).split(" "))


class TurnedCase(Case):
    def asked(self, formula, size, want=None):
        """The paper, shown by the test's own; want tells which one it must be."""
        paper = turned_rule(formula, size)
        self.assertEqual(turned_rule(size=size, formula=formula), paper)
        if paper:
            self.assertIs(type(paper), MadeTied)
            self.assertEqual((paper.word, paper.parts), ("madetied", (paper.lots,)))
            self.assertTrue(is_own_made_tied(formula, size, paper.lots))
        else:
            self.assertIs(type(paper), Differs)
            self.assertTrue(is_own_something(formula, size, paper.tables))
            self.assertEqual([letter for letter, _ in paper.tables], list(formula.letters))
        if want is not None:
            self.assertIs(bool(paper), want)
        return paper


class TurnedRuleTest(TurnedCase):
    def test_crossings_of_ties(self):
        """A rule at its size and at less; a term more, or a weight changed, and it is none."""
        draw = random.Random(1)
        met = 0
        for size in (1, 2, 3, 4):
            for is_table in (True, False):
                for number in range(8 if size < 4 else 3):
                    formula = drawn_tied_rule(draw, size, is_table, 1 + number % 3, "abcde"[:2 + number % 4])
                    met += has_turned(formula)
                    self.assertTrue(is_nothing_at(draw, formula, size, 2))
                    for less in range(1, size + 1):
                        self.asked(formula, less, True)
                    self.asked(formula, draw.randint(5, 8), False)
                    weight, traces, word = draw.choice(formula.terms)
                    self.asked(changed(formula, {(traces, word): draw.choice([-1, 1, GREAT])}), size, None)
                    if len(formula.terms) > 1:
                        self.asked(changed(formula, {(traces, word): -weight}), size)
                    self.asked(changed(formula, {((("a",),), ("b'",) if is_table else None): 2}), size)
        self.assertGreater(met, 20)

    def test_words_turned_over_put_in(self):
        """What the one rule makes stays a rule if letters are turned over."""
        draw = random.Random(2)
        for size in (1, 2, 3):
            for is_table in (True, False):
                for _ in range(4):
                    formula = drawn_rule(draw, size, is_table, 1, "ab")
                    for put in (["a'"], ["b", "c'"], ["c'", "c"]):
                        other = formula.with_word("a", put)
                        if fits(other):
                            self.asked(other, size, True)

    def test_drawn_formulas(self):
        draw = random.Random(3)
        for is_table in (True, False):
            for number in range(40):
                formula = drawn_formula(draw, is_table, 5, 3, "ab"[:1 + number % 2])
                if fits(formula):
                    for size in (1, 2, 3, 8):
                        self.asked(formula, size)
                    for size in (1, 2, 3):
                        nothing = is_nothing_at(draw, formula, size)
                        self.asked(formula, size, nothing)

    def test_formulas_without_turned_letters(self):
        """MadeTied exactly if Made."""
        draw = random.Random(4)
        for is_table in (True, False):
            for number in range(16):
                size = 1 + number % 4
                formula = drawn_rule(draw, size, is_table, 1, "abc") if number % 2 else drawn_formula(draw, is_table, 3, 3, "ab", False)
                if fits(formula):
                    for each in range(1, 9):
                        paper = self.asked(formula, each)
                        self.assertIs(type(rule(formula, each)), Made if paper else Differs)

    def test_told_in_the_document(self):
        even, other = Formula.read("table : 1 a / -1 a'"), Formula.read("table : 1 b / -1 b'")
        self.asked(even, 1, True)
        self.asked(even, 2, False)
        self.asked(even * other - other * even, 2, True)
        self.asked(even * other - other * even, 3, False)
        self.asked(Formula.read("table : 1 a b / -1 b' a'"), 1, True)
        self.asked(Formula.read("table : 1 a a' / -1 a' a"), 2, False)
        self.asked(Formula.read("number : -1 ( a a ) / 1 ( a a' )"), 1, True)
        self.asked(Formula.read("number : 1 ( a a ) / -1 ( a a' )"), 2, False)

    def test_no_letters(self):
        for size in range(1, 9):
            for is_table, word in ((True, []), (False, None)):
                self.assertEqual(self.asked(Formula(is_table, []), size, True), MadeTied(()))
                self.assertEqual(self.asked(Formula(is_table, [(-2, [], word)]), size, False), Differs(()))

    def test_lots_beside_one_another(self):
        for text in ("table : 1 a' / -1 a' a", "number : -1 / 1 ( a a' )", "number : -1 ( a ) / 1 ( a a' )", "table : 1 / -1 a'",
                     "number : -2 ( a ) / 1 ( a ) ( a ) / 1 ( a a' )"):
            self.asked(Formula.read(text), 1, False)


class FactsTest(TurnedCase):
    def test_what_comes_of_rules(self):
        """Turned over, added, multiplied either way about, traced, with words put in: a rule stays one of its size."""
        draw = random.Random(10)
        for size in (1, 2):
            for _ in range(4):
                table, number = drawn_rule(draw, size, True, 1, "ab"), drawn_rule(draw, size, False, 1, "ab")
                tied = drawn_tied_rule(draw, size, True, 1, "ab")
                other = drawn_formula(draw, True, 2, 3, "c")
                told = [table.turned(), number.turned(), tied.turned(), table + tied, tied - table.turned(), tied * other, other * tied,
                        tied.with_word("a", ["b'"]), tied.with_word("b", ["c", "a'"]), number * tied, tied * tied.turned()]
                told += [formula.trace() for formula in (table, tied) if all(word for _, _, word in formula.terms)]
                for formula in told:
                    self.assertTrue(is_nothing_at(draw, formula, size, 2))
                    if fits(formula) and all(len(terms) * own_copies(row) <= 2000 for row, terms in own_lots(formula)):
                        for less in range(1, size + 1):
                            self.asked(formula, less, True)


class FromSizeTest(TurnedCase):
    def against_papers(self, formula):
        """The sizes of which the formula is a rule are those below."""
        told = from_size(formula)
        self.assertEqual(from_size(formula=formula), told)
        function = turned_rule if has_turned(formula) else rule
        sizes = [size for size in range(1, 9) if function(formula, size)]
        self.assertEqual(sizes, list(range(1, 9 if told is None else told)))
        self.assertIs(told is None, formula.terms == ())
        if told is not None:
            self.assertIs(type(told), int)
        return told

    def test_drawn_rules(self):
        draw = random.Random(5)
        for size in (1, 2, 3, 4):
            for is_table in (True, False):
                for _ in range(3):
                    for formula in (drawn_rule(draw, size, is_table), drawn_tied_rule(draw, size, is_table)):
                        self.assertGreater(self.against_papers(formula), size)
        for is_table in (True, False):
            for _ in range(12):
                formula = drawn_formula(draw, is_table, 3, 3, "ab")
                if fits(formula):
                    self.against_papers(formula)

    def test_edges(self):
        self.assertIsNone(self.against_papers(Formula(True, [])))
        self.assertIsNone(self.against_papers(Formula(False, [])))
        self.assertEqual(self.against_papers(Formula(False, [(5, [], None)])), 1)
        self.assertEqual(self.against_papers(Formula(True, [(5, [], [])])), 1)
        self.assertEqual(self.against_papers(Formula.of(["a'"])), 1)
        # A number beside a rule of size 1 with a letter turned over: of no size it is a rule.
        even = Formula.read("number : -1 ( a a ) / 1 ( a a' )")
        self.assertEqual(self.against_papers(even), 2)
        self.assertEqual(self.against_papers(even + Formula(False, [(3, [], None)])), 1)
        self.assertEqual(self.against_papers(even * Formula.of([]) + Formula(True, [(3, [], [])])), 1)
        for many in range(2, 7):
            self.assertEqual(from_size(one_rule([[letter] for letter in "abcdef"[:many]])), many)
            self.assertEqual(from_size(one_rule([[letter] for letter in "abcdef"[:many]]) + Formula(False, [(1, [], None)])), 1)
        for many in range(2, 6):
            self.assertEqual(from_size(one_rule([[letter + "'"] for letter in "abcde"[:many]])), many)


class ErrorsTest(TurnedCase):
    def test_refused(self):
        formula = Formula.read("table : 1 a / -1 a'")
        for value in NO_FORMULAS:
            self.refused(BadFormula("formula"), turned_rule, value, 2)
            self.refused(BadFormula("formula"), turned_rule, value, 0)
            self.refused(BadFormula("formula"), from_size, value)
        for size in NO_SIZES + ODD_VALUES:
            self.refused(BadNumber("size"), turned_rule, formula, size)
            self.refused(BadNumber("size"), turned_rule, Formula.of(["a'"] * 9), size)

    def test_too_many(self):
        """Five letters, of a table formula four; for from_size six and five, where no letter is turned over."""
        for strings in (list("abcdef"), ["a"] * 6, ["a'"] * 6, list("abcdefg")):
            number = Formula(False, [(1, [strings], None)])
            self.refused(TooMany("letters", 5), turned_rule, number, 1)
            self.refused(TooMany("letters", 4), turned_rule, Formula.of(strings[:5]), 8)
            self.refused(TooMany("letters", 4), turned_rule, Formula(True, [(1, [strings], [])]), 8)
        five = Formula(False, [(1, [["a", "b", "c", "d", "e"]], None)])
        self.asked(five, 5, False)
        self.asked(Formula.of(list("abcd")), 5, False)
        self.assertEqual(from_size(Formula(False, [(1, [list("abcdef")], None)])), 1)
        self.assertEqual(from_size(Formula.of(list("abcde"))), 1)
        self.refused(TooMany("letters", 6), from_size, Formula(False, [(1, [list("abcdefg")], None)]))
        self.refused(TooMany("letters", 5), from_size, Formula.of(list("abcdef")))
        turned = Formula(False, [(1, [["a", "b'"]], None)])
        self.refused(TooMany("letters", 5), from_size, Formula(False, [(1, [list("abcdef")], None)]) + turned)
        self.refused(TooMany("letters", 4), from_size, Formula.of(list("abcde")) + Formula.of(["z'"]))
        self.refused(TooMany("letters", 4), from_size, Formula(True, [(1, [["a", "b'"]], list("cde"))]))
        self.assertEqual(from_size(Formula.of(list("abcde")) + Formula.of(["z"])), 1)

    def test_too_many_ways_to_deal(self):
        """The first lot that has an error tells it; a lot without letters has none."""
        terms = []
        for strokes in product(("", "'"), repeat=5):
            told = ["a" + stroke for stroke in strokes]
            terms += [(1, [told], None), (1, [["a"], told[1:]], None)]
            terms += [(1, [told[:2], told[2:]], None), (1, [["a"], ["a"], told[2:]], None), (1, [["a"], told[1:3], told[3:]], None)]
        more = Formula(False, terms)
        self.assertGreater(len(more.terms) * 120, 2000)
        self.refused(TooMany("copies", 2000), turned_rule, more, 1)
        self.refused(TooMany("copies", 2000), from_size, more)
        long = Formula(False, [(1, [["b"] * 6], None)])
        self.refused(TooMany("copies", 2000), turned_rule, more + long, 1)
        self.refused(TooMany("letters", 5), turned_rule, more.with_word("a", ["c"]) + long, 1)
        self.refused(TooMany("copies", 2000), turned_rule, more + Formula(False, [(1, [], None)]), 1)
        self.assertEqual(len(lots(more)), 1)
        few = Formula(False, [(weight, traces, word) for weight, traces, word in more.terms[:16]])
        self.assertEqual(len(few.terms) * 120, 1920)
        self.asked(few, 1)

    def test_no_misfit(self):
        """Letters that are turned over are refused by rule alone."""
        for formula in (Formula.of(["a'"]), Formula(False, [(1, [["a", "b'"]], None)])):
            self.refused(Misfit("turned"), rule, formula, 1)
            self.asked(formula, 1, False)
            self.assertEqual(from_size(formula), 1)
        self.assertEqual(tie_sum_of(Formula.of(["a'"])).ends, 4)
