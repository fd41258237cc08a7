"""Values of formulas, against sums and products of the test's own."""

import random

from fromsize.errors import BadFormula, BadNumber, BadTable, Misfit
from fromsize.formulas import Formula
from fromsize.values import value_of
from tests.own import GREAT, ODD_VALUES, Case
from tests.own_formulas import (NO_LETTERS, drawn_formula, drawn_table, drawn_tables, drawn_triples, drawn_word, own_added,
                                own_over, own_product, own_scaled, own_trace, own_unit, own_value, word_product)


def rows(table):
    return tuple(tuple(row) for row in table)


class ValuesTest(Case):
    def test_against_own(self):
        draw = random.Random(1)
        for size in range(1, 9):
            for is_table in (True, False):
                for _ in range(6):
                    terms = drawn_triples(draw, is_table, 4)
                    tables = drawn_tables(draw, size)
                    value = value_of(Formula(is_table, terms), tables, size)
                    self.assertEqual(value, own_value(terms, is_table, tables, size))
                    told = {letter: rows(table) for letter, table in tables.items()}
                    self.assertEqual(value_of(size=size, tables=told, formula=Formula(is_table, terms)), value)
                    if is_table:
                        self.assertEqual({type(value), *map(type, value)}, {tuple})

    def test_words(self):
        draw = random.Random(2)
        for size in range(1, 6):
            for _ in range(12):
                word, tables = drawn_word(draw, 9), drawn_tables(draw, size, "abc", 10)
                want = word_product(word, tables, size)
                self.assertEqual(value_of(Formula.of(word), tables, size), rows(want))
                if word:
                    self.assertEqual(value_of(Formula(False, [(1, [word], None)]), tables, size), own_trace(want))

    def test_great_entries_and_weights(self):
        draw = random.Random(3)
        for is_table in (True, False):
            for _ in range(10):
                terms = drawn_triples(draw, is_table, 4, GREAT)
                tables = drawn_tables(draw, 3, "abc", GREAT)
                self.assertEqual(value_of(Formula(is_table, terms), tables, 3), own_value(terms, is_table, tables, 3))

    def test_formulas_so_treated(self):
        draw = random.Random(4)
        for size in range(1, 9):
            for is_table in (True, False):
                tables = drawn_tables(draw, size, "abcd")
                one, other = [drawn_formula(draw, is_table, 4, 5, "abc") for _ in range(2)]
                number, table = drawn_formula(draw, False, 3), drawn_formula(draw, True, 3)
                put, more = [value_of(each, tables, size) for each in (one, other)]
                factor, times = value_of(number, tables, size), value_of(table, tables, size)
                if is_table:
                    self.assertEqual(value_of(one + other, tables, size), rows(own_added(put, more)))
                    self.assertEqual(value_of(one - other, tables, size), rows(own_added(put, own_scaled(-1, more))))
                    self.assertEqual(value_of(one * other, tables, size), rows(own_product(put, more)))
                    self.assertEqual(value_of(one.times(-7), tables, size), rows(own_scaled(-7, put)))
                    self.assertEqual(value_of(one.turned(), tables, size), rows(own_over(put)))
                    self.assertEqual(value_of(one * number, tables, size), rows(own_scaled(factor, put)))
                    self.assertEqual(value_of(number * one, tables, size), rows(own_scaled(factor, put)))
                else:
                    self.assertEqual(value_of(one + other, tables, size), put + more)
                    self.assertEqual(value_of(one - other, tables, size), put - more)
                    self.assertEqual(value_of(one * other, tables, size), put * more)
                    self.assertEqual(value_of(one.times(-7), tables, size), -7 * put)
                    self.assertEqual(value_of(one.turned(), tables, size), put)
                    self.assertEqual(value_of(one * table, tables, size), rows(own_scaled(put, times)))

    def test_traced(self):
        draw = random.Random(5)
        for size in range(1, 9):
            terms = [(draw.randint(-5, 5), [drawn_word(draw, 3, least=1)], drawn_word(draw, 3, least=1)) for _ in range(4)]
            formula, tables = Formula(True, terms), drawn_tables(draw, size)
            self.assertEqual(value_of(formula.trace(), tables, size), own_trace(value_of(formula, tables, size)))

    def test_with_a_word_put_in(self):
        draw = random.Random(6)
        for size in range(1, 6):
            for is_table in (True, False):
                for _ in range(4):
                    formula, tables = drawn_formula(draw, is_table, 4), drawn_tables(draw, size, "abcd")
                    word = drawn_word(draw, 3, "abd", True, 1)
                    changed = {**tables, "b": word_product(word, tables, size)}
                    self.assertEqual(value_of(formula.with_word("b", word), tables, size), value_of(formula, changed, size))
        table = Formula(True, [(2, [["a"]], ["b", "a", "b'"])])
        tables = drawn_tables(draw, 3)
        self.assertEqual(value_of(table.with_word("b", []), tables, 3), value_of(table, {**tables, "b": own_unit(3)}, 3))

    def test_edges(self):
        for size in range(1, 9):
            zero, unit = rows([[0] * size] * size), rows(own_unit(size))
            self.assertEqual(value_of(Formula(True, []), {}, size), zero)
            self.assertEqual(value_of(Formula(False, []), {}, size), 0)
            self.assertEqual(value_of(Formula.of([]), {}, size), unit)
            self.assertEqual(value_of(Formula.read("table : -3"), {}, size), rows(own_scaled(-3, own_unit(size))))
            self.assertEqual(value_of(Formula.read("number : 7"), {}, size), 7)
            self.assertEqual(value_of(Formula.read("number : 1 ( a )"), {"a": own_unit(size)}, size), size)
            more = {"q": drawn_table(random.Random(7), size), "z": own_unit(size)}
            self.assertEqual(value_of(Formula.of([]), more, size), unit)
            self.assertEqual(value_of(Formula.of(["z"]), more, size), unit)
            self.assertIs(type(value_of(Formula.read("number : 7"), more, size)), int)

    def test_nothing_changes(self):
        tables = {"a": [[1, 2], [3, 4]], "b": [[0, 1], [0, 0]]}
        value_of(Formula.read("table : 1 ( a b' ) a' b"), tables, 2)
        self.assertEqual(tables, {"a": [[1, 2], [3, 4]], "b": [[0, 1], [0, 0]]})

    def test_long_words(self):
        self.assertEqual(value_of(Formula.of(["a", "b"] * 1000), {"a": [[1, 1], [0, 1]], "b": [[1, 0], [0, 1]]}, 2), ((1, 1000), (0, 1)))
        self.assertEqual(value_of(Formula(False, [(1, [["a"] * 2000], None)]), {"a": [[2]]}, 1), 2 ** 2000)


class RefusedTest(Case):
    def test_in_their_order(self):
        formula = Formula.read("table : 1 ( a ) b'")
        tables = {"a": [[1]], "b": [[2]]}
        for value in [formula.terms, str(formula), Formula, ("a",), *ODD_VALUES]:
            self.refused(BadFormula("formula"), value_of, value, tables, 1)
            self.refused(BadFormula("formula"), value_of, value, None, 0)
        for size in [0, 9, -1, GREAT, True, None, "1", 1.0, [1], *ODD_VALUES]:
            self.refused(BadNumber("size"), value_of, formula, tables, size)
            self.refused(BadNumber("size"), value_of, formula, None, size)
        self.refused(BadTable("tables"), value_of, formula, {"c": 1}, 1)
        for gone in ("a", "b"):
            left = {letter: table for letter, table in tables.items() if letter != gone}
            self.refused(Misfit("letters"), value_of, formula, left, 1)
        self.refused(Misfit("letters"), value_of, formula, {}, 1)
        self.refused(Misfit("letters"), value_of, formula, {"c": [[1]]}, 1)
        self.assertEqual(value_of(formula, tables, 1), ((2,),))

    def test_tables(self):
        formula = Formula.read("table : 1 ( a ) b'")
        right = {"a": [[1, 2], [3, 4]], "b": [[1, 0], [0, 1]]}
        value_of(formula, right, 2)
        for value in [None, 1, "", [], [("a", right["a"]), ("b", right["b"])], (("a", right["a"]),), "ab", {"a"}, list(right), object()]:
            self.refused(BadTable("tables"), value_of, formula, value, 2)
            self.refused(BadTable("tables"), value_of, Formula(True, []), value, 2)
        for table in [[[1]], [[1, 2, 3]] * 3, [[1, 2], [3]], [[1, 2]], [[1, 2], [3, True]], [[1, 2], [3, "4"]], [[1, 2], [3, 4.0]],
                      [[1, 2], [3, None]], [[1, 2], None], [], None, 1, "ab", [1, 2, 3, 4], {0: [1, 2], 1: [3, 4]}, [[1, 2], [3, 4], []]]:
            for letter in "abz":
                self.refused(BadTable("tables"), value_of, formula, {**right, letter: table}, 2)
        for letter in NO_LETTERS:
            if getattr(letter, "__hash__", None) is not None:
                self.refused(BadTable("tables"), value_of, formula, {**right, letter: right["a"]}, 2)
        for size in (1, 3, 8):
            self.refused(BadTable("tables"), value_of, formula, right, size)
