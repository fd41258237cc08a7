"""Rules and what shows them, against makings multiplied out, and tables put, by the test's own."""

import random
import time

from fromsize.crossings import crossing
from fromsize.errors import BadFormula, BadNumber, Misfit, TooMany
from fromsize.formulas import Formula
from fromsize.led import formula_of, lots
from fromsize.one import cayley, one_rule
from fromsize.rules import Differs, Made, rule
from fromsize.sums import Sum
from fromsize.values import value_of
from tests.own import GREAT, ODD_VALUES, Case, drawn_row, drawn_tops
from tests.own_formulas import drawn_formula, drawn_tables, drawn_triples, own_turned_word
from tests.own_rules import are_own_tables, changed, drawn_rule, fits, is_nothing_at, is_own_made, is_own_something
from tests.test_led import NO_FORMULAS

NO_SIZES = [0, 9, -1, 10, GREAT, True, False, None, "1", 1.0, [1], (), {}, object()]


class RuleCase(Case):
    def asked(self, formula, size, want=None):
        """The paper, shown by the test's own; want tells which one it must be."""
        paper = rule(formula, size)
        self.assertEqual(rule(size=size, formula=formula), paper)
        if paper:
            self.assertIs(type(paper), Made)
            self.assertEqual((paper.word, paper.parts), ("made", (paper.lots,)))
            self.assertEqual(len(paper.lots), len(lots(formula)))
            self.assertTrue(is_own_made(formula, size, paper.lots))
        else:
            self.assertIs(type(paper), Differs)
            self.assertEqual((paper.word, paper.parts), ("differs", (paper.tables,)))
            self.assertTrue(is_own_something(formula, size, paper.tables))
            self.assertEqual([letter for letter, _ in paper.tables], list(formula.letters))
            self.assertLessEqual({entry for _, table in paper.tables for row in table for entry in row}, set(range(7)))
        if want is not None:
            self.assertIs(bool(paper), want)
        return paper


class MadeTest(RuleCase):
    def test_what_the_one_rule_makes(self):
        """A rule at its size and at less; a term more, or a weight changed, and it is none."""
        draw = random.Random(1)
        for size in (1, 2, 3, 4):
            for is_table in (True, False):
                for number in range(8 if size < 4 else 4):
                    formula = drawn_rule(draw, size, is_table, 1 + number % 3, "abcdef"[:2 + number % 4])
                    self.assertTrue(is_nothing_at(draw, formula, size, 2))
                    for less in range(1, size + 1):
                        self.asked(formula, less, True)
                    weight, traces, word = draw.choice(formula.terms)
                    more = changed(formula, {(traces, word): draw.choice([-1, 1, GREAT])})
                    if fits(more):
                        self.asked(more, size, False)
                    if len(formula.terms) > 1:
                        self.asked(changed(formula, {(traces, word): -weight}), size, False)
                    for _ in range(2):
                        other = changed(formula, {((("a",),), () if is_table else None): 2})
                        self.asked(other, draw.randint(1, 8), None if other == formula else False)

    def test_every_size(self):
        """From a size on it is none, up to the size 8."""
        draw = random.Random(2)
        for size in (1, 2, 3, 4):
            for is_table in (True, False):
                formula = drawn_rule(draw, size, is_table)
                truths = [bool(self.asked(formula, each)) for each in range(1, 9)]
                self.assertEqual(truths, sorted(truths, reverse=True))
                self.assertEqual(truths[:size], [True] * size)
                self.assertEqual(truths[6:], [False, False])

    def test_the_one_rule_itself(self):
        for size in (1, 2, 3, 4, 5):
            words = [[letter] for letter in "abcdef"[:size + 1]]
            formula = one_rule(words)
            paper = self.asked(formula, size, True)
            self.assertEqual([len(makings) for makings in paper.lots], [1])
            weight, traces, told = paper.lots[0][0]
            self.assertEqual((abs(weight), traces, sorted(told)), (1, (), [(letter,) for letter in "abcdef"[:size + 1]]))
            self.asked(formula, size + 1, False)
            self.asked(cayley(words[1:]), size, True)
            self.asked(cayley(words[1:]), size + 1, False)

    def test_several_lots(self):
        """One list of makings for each lot in order; one lot that is none and all is none."""
        draw = random.Random(3)
        for is_table in (True, False):
            for size in (1, 2):
                parts = [drawn_rule(draw, size, is_table, 1, letters) for letters in ("a", "ab", "abc", "xyz", "bz")]
                total = Formula(is_table, [])
                for part in parts:
                    total = total + part
                paper = self.asked(total, size, True)
                self.assertGreater(len(paper.lots), 3)
                other = total + Formula(is_table, [(1, [["b", "z"]], ["c"] if is_table else None)])
                self.asked(other, size, False)

    def test_how_many_makings(self):
        """At size 1 there is a step for each wiring but one; never more than 720 makings."""
        for is_table, letters in ((False, "abcdef"), (True, "abcde")):
            row = tuple(range(6))
            formula = formula_of(crossing(row, row), list(letters), is_table)
            for size in (1, 2, 3, 4, 5):
                paper = self.asked(formula, size, True)
                self.assertLessEqual(len(paper.lots[0]), 720)
            whole = formula_of(Sum(6, [(2 if number % 2 else -2, each) for number, (_, each) in enumerate(crossing(row, row).terms)]),
                               list(letters), is_table)
            self.assertLessEqual(len(self.asked(whole, 1, True).lots[0]), 720)


class DiffersTest(RuleCase):
    def test_drawn_formulas(self):
        draw = random.Random(4)
        for is_table in (True, False):
            for number in range(40):
                formula = drawn_formula(draw, is_table, 6, 4, "abc"[:1 + number % 3], False)
                if all(len(row.letters) == 0 or sum(map(len, row.terms[0][1])) + len(row.terms[0][2] or ()) <= 5 for row in lots(formula)):
                    for size in (1, 2, 3, 8):
                        self.asked(formula, size)

    def test_one_term(self):
        """A term by itself is no rule of any size."""
        draw = random.Random(5)
        for is_table in (True, False):
            for _ in range(12):
                terms = [(weight, traces[:1], word) for weight, traces, word in drawn_triples(draw, is_table, 1, 3, "ab", False) if weight]
                for size in (1, 2, 5, 8):
                    self.asked(Formula(is_table, terms), size, terms == [])

    def test_lots_beside_one_another(self):
        """Lots that would cancel one another for tables of ones, and lots with letters oftener that are rules."""
        for text, size in (("number : 1 ( a ) / -1 ( a ) ( a )", 1), ("number : -1 / 1 ( a )", 1), ("table : 1 / -1 a", 1),
                           ("number : -1 / 1 ( a ) ( a )", 1), ("number : -4 / 1 ( a ) ( a )", 2), ("table : 1 a / -1 a b", 2),
                           ("number : -1 ( a ) / 1 ( a ) ( b )", 1), ("number : 6 / -5 ( a ) / 1 ( a ) ( a )", 1),
                           ("number : -6 ( a ) / 11 ( a ) ( a ) / -6 ( a ) ( a ) ( a ) / 1 ( a ) ( a ) ( a ) ( a )", 1),
                           ("table : 24 / -50 a / 35 a a / -10 a a a / 1 a a a a", 1),
                           ("number : 1 ( a ) / -1 ( a ) ( a ) / 1 ( a a )", 1)):
            self.asked(Formula.read(text), size, False)
        commutator = Formula.of(["a", "b"]) - Formula.of(["b", "a"])
        for more in (Formula.of(["a"]), Formula.of(["b"]), Formula(True, [(1, [], [])]), Formula(True, [(1, [["c"]], [])])):
            self.asked(commutator + more, 1, False)
            self.asked(commutator * Formula.of(["c"]) + more, 1, False)

    def test_no_letters(self):
        for size in range(1, 9):
            self.assertEqual(self.asked(Formula(True, []), size, True), Made(()))
            self.assertEqual(self.asked(Formula(False, []), size, True), Made([]))
            for weight in (1, -3, GREAT):
                self.assertEqual(self.asked(Formula(True, [(weight, [], [])]), size, False), Differs(()))
                self.assertEqual(self.asked(Formula(False, [(weight, [], None)]), size, False), Differs([]))

    def test_words_told_in_the_document(self):
        word = ["a", "a", "b", "a", "b", "b"]
        formula = Formula(False, [(1, [word], None), (-1, [word[::-1]], None)])
        self.asked(formula, 2, True)
        self.asked(formula, 3, False)
        square = Formula.read("table : 2 a a / -2 ( a ) a / 1 ( a ) ( a ) / -1 ( a a )")
        for size in (1, 2, 3):
            self.asked(square, size, size < 3)
        pair = Formula.of(["a", "b"]) - Formula.of(["b", "a"])
        both = pair * pair * Formula.of(["c"]) - Formula.of(["c"]) * pair * pair
        self.asked(both, 2, True)
        self.asked(both, 3, False)

    def test_many_lots_in_a_short_time(self):
        letters = "abcdefghij"
        terms = [(1, [[x]], [y, z]) for x in letters for y in letters for z in letters if y < z]
        formula = Formula(True, terms + [(-weight, traces, word[::-1]) for weight, traces, word in terms])
        start = time.process_time()
        self.assertTrue(rule(formula, 1))
        self.assertFalse(rule(formula, 2))
        self.assertLess(time.process_time() - start, 3)


class ErrorsTest(RuleCase):
    def test_refused(self):
        formula = Formula.read("table : 1 a b / -1 b a")
        for value in NO_FORMULAS:
            self.refused(BadFormula("formula"), rule, value, 2)
            self.refused(BadFormula("formula"), rule, value, 0)
        for size in NO_SIZES + ODD_VALUES:
            self.refused(BadNumber("size"), rule, formula, size)
            self.refused(BadNumber("size"), rule, Formula.of(["a'"] * 9), size)

    def test_turned_ahead_of_too_many(self):
        for formula in (Formula.of(["a'"]), Formula.of(["a"] * 7) + Formula.of(["b'"]), Formula(False, [(1, [["a", "b'"]], None)]),
                        Formula(True, [(1, [["a", "b'"]], []), (1, [], ["c"] * 9)])):
            self.refused(Misfit("turned"), rule, formula, 1)
            self.refused(BadNumber("size"), rule, formula, 9)
        # Told by its least word, this trace has no letter turned over.
        self.asked(Formula(False, [(1, [["a'", "b'"]], None)]), 2, False)
        self.assertEqual(own_turned_word(("a'", "b'")), ("b", "a"))

    def test_the_first_lot_that_has_too_many(self):
        many = Formula(False, [(1, [list("aaaaaa")], None), (1, [list("aaaaa"), ["a"]], None), (1, [list("aaaa"), list("aa")], None)])
        long = Formula(False, [(1, [list("abcdefg")], None)])
        for formula, error in ((many, TooMany("copies", 2000)), (long, TooMany("letters", 6)), (many + long, TooMany("copies", 2000)),
                               (long + many.with_word("a", ["b"]), TooMany("letters", 6)),
                               (Formula(False, [(3, [], None)]) + long, TooMany("letters", 6))):
            for size in (1, 8):
                self.refused(error, rule, formula, size)
        self.refused(TooMany("letters", 5), rule, Formula.of(["a"] * 6), 3)
        self.refused(TooMany("letters", 5), rule, Formula(True, [(1, [list("abcdef")], [])]), 3)
        self.refused(TooMany("letters", 5), rule, Formula.of(["a"]) + Formula.of(list("abcabc")), 1)
        thick = Formula(True, [(1, [["a"] * k for k in cut], ["a"] * (5 - sum(cut))) for cut in
                               ((), (1,), (2,), (3,), (4,), (5,), (1, 1), (1, 2), (1, 3), (1, 4), (2, 2), (2, 3), (1, 1, 1), (1, 1, 2),
                                (1, 1, 3), (1, 2, 2), (1, 1, 1, 1))])
        self.refused(TooMany("copies", 2000), rule, thick, 1)
        self.asked(thick - Formula.of(["a"] * 5), 1)

    def test_as_many_as_there_may_be(self):
        self.asked(Formula(False, [(1, [list("abcdef")], None)]), 6, False)
        self.asked(Formula.of(list("abcde")), 6, False)
        self.asked(one_rule([["a"], ["b"]] * 3), 5, True)
        self.asked(cayley([["a"], ["b"], ["a"], ["b"], ["a"]]), 5, True)
        self.refused(TooMany("copies", 2000), rule, one_rule([["a"]] * 6), 5)


class FactsTest(RuleCase):
    """How what comes of rules behaves."""

    def test_what_comes_of_rules(self):
        draw = random.Random(6)
        for size in (1, 2):
            for _ in range(4):
                table, number = drawn_rule(draw, size, True, 1, "ab"), drawn_rule(draw, size, False, 1, "ab")
                other, more = drawn_formula(draw, True, 2, 3, "c", False), drawn_formula(draw, False, 2, 3, "c", False)
                told = [table + drawn_rule(draw, size, True, 1, "ab"), table - table.times(3), number + drawn_rule(draw, size, False, 1),
                        table * other, other * table, table * more, number * other, other * number, number * more, number * number,
                        table * table, table.with_word("a", ["a", "c"]), table.with_word("b", []) if self.can_go(table) else table,
                        number.with_word("a", ["c"]), table.times(GREAT)]
                if all(word for _, _, word in table.terms):
                    told.append(table.trace())
                for formula in told:
                    self.assertTrue(is_nothing_at(draw, formula, size, 2))
                    if self.is_small(formula):
                        for less in range(1, size + 1):
                            self.asked(formula, less, True)

    def can_go(self, formula):
        return not any("b" * len(trace) == "".join(trace) for _, traces, _ in formula.terms for trace in traces)

    def is_small(self, formula):
        rows = [sum(map(len, traces)) + len(word or ()) for _, traces, word in formula.terms]
        return max(rows, default=0) <= (5 if formula.is_table else 6) and fits(formula)

    def test_tables_put(self):
        """What is told as a rule is nothing for drawn tables, all sums of crossings at a size among them."""
        draw = random.Random(7)
        for wires in (2, 3, 4, 5):
            for size in range(1, wires):
                total = crossing(drawn_row(draw, wires), drawn_tops(draw, wires, size + 1))
                for is_table in (True, False):
                    letters = [draw.choice("abc") for _ in range(wires - is_table)]
                    formula = formula_of(total, letters, is_table)
                    if fits(formula):
                        self.asked(formula, size, True)
                        value = value_of(formula, drawn_tables(draw, size, "abc", GREAT), size)
                        self.assertEqual(value, ((0,) * size,) * size if is_table else 0)

    def test_any_order_of_terms(self):
        draw = random.Random(8)
        formula = drawn_rule(draw, 2, True, 3)
        terms = draw.sample(formula.terms, len(formula.terms))
        self.assertEqual(rule(Formula(True, terms), 2), rule(formula, 2))
        self.assertTrue(are_own_tables(formula, 8, rule(formula, 8).tables))
