"""Lots and their sums, against all ways to deal done by the test."""

import random
from itertools import permutations, product
from math import factorial

from fromsize.crossings import crossing
from fromsize.errors import BadFormula, BadSum, BadWord, Misfit, TooMany
from fromsize.formulas import Formula
from fromsize.led import copies, formula_of, letters_of, lots, sum_of
from fromsize.sums import Sum
from fromsize.values import value_of
from fromsize.written import judged
from tests.own import ODD_VALUES, Case, as_dict, drawn_row, drawn_sum, drawn_tops, own_rounds
from tests.own_formulas import (NO_WORDS, as_terms, bag, drawn_formula, drawn_string, drawn_tables, listed, own_turned_word,
                                row_of)

NO_FORMULAS = ["number : 1 ( a )", ((1, ((("a"),),), None),), Formula, Sum.of((0,)), *ODD_VALUES]


def cut(draw, strings, is_table):
    """A drawn term of these strings, in any order, in traces, and in a word of a table formula."""
    left = draw.sample(strings, len(strings))
    word = None
    if is_table:
        many = draw.randint(0, len(left))
        word, left = left[:many], left[many:]
    traces = []
    while left:
        many = draw.randint(1, len(left))
        traces, left = traces + [left[:many]], left[many:]
    return draw.choice([-3, -1, 1, 2, 5]), traces, word


def drawn_lot(draw, row, is_table, most=4, turned=False):
    """A lot with this row of letters."""
    lot = Formula(is_table, [])
    while not lot.terms:
        terms = []
        for _ in range(draw.randint(1, most)):
            strings = [letter + ("'" if turned and draw.random() < 0.5 else "") for letter in row]
            terms.append(cut(draw, strings, is_table))
        lot = Formula(is_table, terms)
    return lot


def drawn_rows(draw, most):
    """Rows of letters, one and several times each, of up to so many letters."""
    found = [("a",), ("z",), ("a", "b"), ("a", "a"), ("a", "a", "b"), ("b", "c", "c"), ("a", "a", "a"), ("a", "b", "c")]
    found += [tuple(sorted(draw.choices("abc", k=many))) for many in range(4, most + 1) for _ in range(2)]
    return [row for row in found if len(row) <= most]


def own_dealings(term, row):
    """All ways to deal: for each letter its wires in each order, the mark's wire last; lists of rounds of (string, wire)."""
    _, traces, word = term
    rounds = [list(trace) for trace in traces] + ([] if word is None else [list(word) + ["*"]])
    wires = list(row) + ([] if word is None else ["*"])
    letters = sorted(set(wires))
    for orders in product(*[list(permutations([k for k, letter in enumerate(wires) if letter == told])) for told in letters]):
        left = {letter: list(order) for letter, order in zip(letters, orders)}
        yield [[(string, left[string[0]].pop(0)) for string in told] for told in rounds]


def own_sum(lot, row):
    """The sum of a lot, as a dict."""
    found = {}
    for term in lot.terms:
        for rounds in own_dealings(term, row):
            goes = {}
            for told in rounds:
                for at, (_, wire) in enumerate(told):
                    goes[wire] = told[(at + 1) % len(told)][1]
            wiring = tuple(goes[wire] for wire in range(len(goes)))
            found[wiring] = found.get(wiring, 0) + term[0]
    return {wiring: weight for wiring, weight in found.items() if weight != 0}


def own_copies(row):
    found = 1
    for letter in set(row):
        found *= factorial(row.count(letter))
    return found


class LotsTest(Case):
    def test_drawn_formulas(self):
        draw = random.Random(1)
        for number in range(80):
            is_table = number % 2 == 0
            formula = drawn_formula(draw, is_table, 12, 4, "ab")
            told = lots(formula)
            self.assertEqual(lots(formula=formula), told)
            self.assertIs(type(told), tuple)
            rows = [letters_of(lot) for lot in told]
            self.assertEqual(rows, sorted({row_of(term) for term in formula.terms}))
            total = Formula(is_table, [])
            for lot, row in zip(told, rows):
                self.assertIs(lot.is_table, is_table)
                self.assertTrue(all(row_of(term) == row for term in lot.terms))
                self.assertEqual((letters_of(lot=lot), copies(lot=lot)), (row, own_copies(row)))
                self.assertEqual(lots(lot), (lot,))
                total = total + lot
            self.assertEqual(total, formula)

    def test_edges(self):
        for is_table, word in ((True, []), (False, None)):
            self.assertEqual(lots(Formula(is_table, [])), ())
            lot = Formula(is_table, [(4, [], word)])
            self.assertEqual((lots(lot), letters_of(lot), copies(lot)), ((lot,), (), 1))
        self.assertEqual(copies(Formula.of(["a"] * 60)), factorial(60))
        self.assertEqual(copies(Formula.of(["a", "b'", "a'", "b", "c", "a"])), 12)
        self.assertEqual(letters_of(Formula.of(["b'", "a", "b"])), ("a", "b", "b"))
        self.assertEqual(letters_of(Formula(True, [(1, [["b"]], ["a'"]), (1, [["a", "b"]], [])])), ("a", "b"))

    def test_refused(self):
        for value in NO_FORMULAS:
            self.refused(BadFormula("formula"), lots, value)
            for function in (copies, letters_of, sum_of):
                self.refused(BadFormula("lot"), function, value)
        bad = [Formula(True, []), Formula(False, []), Formula.of(["a"]) + Formula.of(["b"]), Formula.of(["a"]) + Formula.of(["a", "a"]),
               Formula.of([]) - Formula.of(["a"]), Formula.of(["a'"]) + Formula.of(["b"]), Formula.of(["a"] * 9) + Formula.of(["a"] * 8)]
        for lot in bad:
            for function in (copies, letters_of, sum_of):
                self.refused(Misfit("lot"), function, lot)


class SumsTest(Case):
    def test_against_all_ways_to_deal(self):
        draw = random.Random(2)
        for is_table, most in ((True, 5), (False, 6)):
            for row in drawn_rows(draw, most):
                for _ in range(2):
                    lot = drawn_lot(draw, row, is_table, 2 if len(row) == 6 else 4)
                    total = sum_of(lot=lot)
                    self.assertEqual(total.wires, len(row) + is_table)
                    self.assertEqual(as_dict(total), own_sum(lot, row))

    def test_back_again(self):
        draw = random.Random(3)
        for is_table, most in ((True, 5), (False, 6)):
            for row in drawn_rows(draw, most):
                lot = drawn_lot(draw, row, is_table, 2 if len(row) == 6 else 4)
                self.assertEqual(formula_of(sum_of(lot), row, is_table), lot.times(own_copies(row)))

    def test_without_letters(self):
        self.assertEqual(sum_of(Formula(True, [(4, [], [])])), Sum(1, [(4, (0,))]))
        self.assertEqual(formula_of(Sum(1, [(4, (0,))]), [], True), Formula(True, [(4, [], [])]))
        self.refused(Misfit("letters"), sum_of, Formula(False, [(4, [], None)]))

    def test_the_word_and_the_mark(self):
        """The wire of the word's last letter goes on to the last wire, and this one to that of its first."""
        self.assertEqual(sum_of(Formula.of(["a", "b"])), Sum.of((1, 2, 0)))
        self.assertEqual(sum_of(Formula.of(["b", "a"])), Sum.of((2, 0, 1)))
        self.assertEqual(sum_of(Formula(True, [(1, [["a", "c"]], ["b"])])), Sum.of((2, 3, 0, 1)))
        self.assertEqual(sum_of(Formula(False, [(1, [["a", "b", "c"]], None)])), Sum.of((1, 2, 0)))

    def test_values(self):
        """A lot at drawn tables, times its copies, is what its sum leads all settings with, times entries."""
        draw = random.Random(4)
        for size, most in ((1, 5), (2, 4), (3, 3)):
            for row in drawn_rows(draw, most):
                lot = drawn_lot(draw, row, False)
                tables = drawn_tables(draw, size)
                tables["z"] = tables["a"]
                total, want = sum_of(lot), 0
                settings = list(product(range(size), repeat=len(row)))
                for tops in settings:
                    for bottoms in settings:
                        number = total.led(tops, bottoms)
                        if number:
                            for wire, letter in enumerate(row):
                                number *= tables[letter][bottoms[wire]][tops[wire]]
                            want += number
                self.assertEqual(value_of(lot, tables, size) * own_copies(row), want)

    def test_nothing_just_where_the_sum_is(self):
        draw = random.Random(5)
        met = set()
        for wires in (2, 3, 4):
            for number in range(10):
                total = crossing(drawn_row(draw, wires), drawn_tops(draw, wires, draw.randint(2, wires)))
                if number % 3 == 0:
                    total = total + drawn_sum(draw, wires, 1)
                row = tuple(sorted(draw.choices("ab", k=wires)))
                formula = formula_of(total, draw.sample(row, wires), False)
                for lot in lots(formula):
                    for size in (1, 2, 3):
                        is_nothing = all(value_of(lot, drawn_tables(draw, size), size) == 0 for _ in range(12))
                        self.assertIs(bool(judged(sum_of(lot), size)), is_nothing)
                        met.add((size, is_nothing))
        self.assertEqual(met, {(size, truth) for size in (1, 2) for truth in (True, False)} | {(3, False), (3, True)})

    def test_first_of_several_errors(self):
        """No lot, then a letter turned over, then no letters, then too many letters, then too many ways to deal."""
        seven, turned = Formula(False, [(1, [["a"] * 7], None)]), Formula(False, [(1, [["a", "a", "a'", "a", "a", "a", "a"]], None)])
        self.refused(Misfit("lot"), sum_of, turned + Formula(False, [(1, [["b"]], None)]))
        self.refused(Misfit("turned"), sum_of, turned)
        self.refused(TooMany("letters", 6), sum_of, seven)
        self.refused(TooMany("letters", 6), sum_of, Formula(False, [(1, [[letter] for letter in "abcdefg"], None)]))
        self.refused(TooMany("letters", 5), sum_of, Formula.of(["a"] * 6))
        self.refused(TooMany("letters", 5), sum_of, Formula(True, [(1, [[letter] for letter in "abcdef"], [])]))
        self.refused(Misfit("turned"), sum_of, Formula.of(["a'"] * 6))
        self.refused(Misfit("turned"), sum_of, Formula(True, [(1, [["a", "b'"]], []), (1, [], ["a", "b"])]))
        self.assertEqual(len(sum_of(Formula(False, [(1, [["a", "b", "c", "d", "e", "f"]], None)]))), 1)
        self.assertEqual(len(sum_of(Formula.of(["a", "b", "c", "d", "e"]))), 1)

    def test_too_many_ways_to_deal(self):
        for row, is_table, fits in (("aaaaab", False, 16), ("aaaaaa", False, 2), ("aaaaa", True, 16)):
            terms = []
            draw = random.Random(6)
            while len(bag(terms)) <= fits:
                terms = listed(bag([*terms, (1, *cut(draw, list(row), is_table)[1:])]))
            self.assertEqual(len(terms), fits + 1)
            many = fits * own_copies(row)
            self.assertTrue(many <= 2000 < many + own_copies(row))
            total = sum_of(Formula(is_table, terms[:fits]))
            self.assertEqual(sum(weight for weight, _ in total.terms), sum(weight for weight, _, _ in terms[:fits]) * own_copies(row))
            self.refused(TooMany("copies", 2000), sum_of, Formula(is_table, terms))


class BackTest(Case):
    def own_formula(self, total, letters, is_table):
        """Each round walked from its least wire, that of the last wire from the wire behind it."""
        terms = []
        for weight, wiring in total.terms:
            traces, word = [], None
            for told in own_rounds(wiring):
                if is_table and len(wiring) - 1 in told:
                    at = told.index(len(wiring) - 1)
                    word = [letters[wire] for wire in told[at + 1:] + told[:at]]
                else:
                    traces.append([letters[wire] for wire in told])
            terms.append((weight, traces, word))
        return bag(terms)

    def test_letters_in_any_order(self):
        draw = random.Random(7)
        for is_table in (True, False):
            for wires in range(1, 7):
                for _ in range(6):
                    total = drawn_sum(draw, wires)
                    letters = [drawn_string(draw, "abz") for _ in range(wires - is_table)]
                    formula = formula_of(total, letters, is_table)
                    self.assertEqual(as_terms(formula), self.own_formula(total, letters, is_table))
                    self.assertIs(formula.is_table, is_table)
                    self.assertEqual(formula_of(is_table=is_table, letters=tuple(letters), total=total), formula)

    def test_letters_turned_over(self):
        total = Sum.of((1, 2, 0))
        self.assertEqual(str(formula_of(total, ["a", "b'"], True)), "table : 1 a b'")
        self.assertEqual(str(formula_of(total, ["a'", "b'", "c'"], False)), "number : 1 ( a c b )")
        self.assertEqual(own_turned_word(("a'", "b'", "c'")), ("c", "b", "a"))

    def test_refused(self):
        total = Sum.of((1, 2, 0))
        for is_table in (True, False):
            right = ["a", "b"] if is_table else ["a", "b", "c"]
            for value in [(1, 2, 0), total.terms, str(total), Formula.of(["a"]), *ODD_VALUES]:
                self.refused(BadSum("total"), formula_of, value, right, is_table)
                self.refused(BadSum("total"), formula_of, value, None, is_table)
            for value in NO_WORDS + ODD_VALUES:
                self.refused(BadWord("letters"), formula_of, total, value, is_table)
            for letters in ([], ["a"], ["a", "b", "c"], ["a"] * 4) if is_table else ([], ["a"], ["a", "b"], ["a"] * 4):
                self.refused(Misfit("letters"), formula_of, total, letters, is_table)
                self.refused(Misfit("letters"), formula_of, Sum(3, []), letters, is_table)
            self.assertEqual(formula_of(Sum(3, []), right, is_table), Formula(is_table, []))
