"""Formulas, against counts of the test's own."""

import random

from fromsize.errors import BadFormula, BadNumber, BadWord, Misfit, TooMany
from fromsize.formulas import Formula
from fromsize.sums import Sum
from tests.own import GREAT, ODD_VALUES, Case
from tests.own_formulas import (ALPHABET, NO_LETTERS, NO_WORDS, bag, drawn_formula, drawn_triples, drawn_word, listed,
                                own_turned_word)

KINDS = (True, False)


def turned_about(draw, word):
    """The word of the same trace, begun elsewhere, perhaps turned over."""
    at = draw.randrange(len(word))
    begun = list(word[at:]) + list(word[:at])
    return draw.choice([begun, tuple(begun), own_turned_word(begun)])


def put(word, letter, other):
    """Each such letter exchanged for the other word, turned over where it has a stroke."""
    found = []
    for string in word:
        found += list(other) if string == letter else list(own_turned_word(other)) if string == letter + "'" else [string]
    return tuple(found)


class MakingTest(Case):
    def test_terms(self):
        draw = random.Random(1)
        for is_table in KINDS:
            for great in (2, GREAT, 10 ** 90):
                for _ in range(40):
                    terms = drawn_triples(draw, is_table, 6, great)
                    terms += draw.sample(terms, len(terms) // 2) + [(0, traces, word) for _, traces, word in terms[:1]]
                    want = bag(terms)
                    formula = Formula(is_table, terms)
                    self.assertEqual(formula.terms, listed(want))
                    self.assertIs(formula.is_table, is_table)
                    letters = sorted({s[0] for traces, word in want for told in (*traces, word or ()) for s in told})
                    self.assertEqual(formula.letters, tuple(letters))
                    told = [[weight, [turned_about(draw, trace) for trace in draw.sample(traces, len(traces))], word]
                            for weight, traces, word in draw.sample(terms, len(terms))]
                    self.assertEqual(Formula(is_table, told), formula)
                    self.assertEqual(Formula(terms=tuple(tuple(each) for each in told), is_table=is_table).terms, formula.terms)

    def test_kinds_of_what_is_kept(self):
        formula = Formula(True, [[2, [["b", "a"], ("a'",)], ["c"]]])
        self.assertEqual(formula.terms, ((2, (("a",), ("a", "b")), ("c",)),))
        for told in (formula.terms, formula.terms[0], formula.terms[0][1], formula.terms[0][1][0], formula.terms[0][2],
                     formula.letters):
            self.assertIs(type(told), tuple)
        self.assertEqual(Formula(False, [(3, [], None)]).terms, ((3, (), None),))
        self.assertEqual(Formula(False, [(3, [], None), (-3, (), None)]).terms, ())

    def test_order(self):
        """By traces, then by words, as Python compares tuples of strings."""
        words = [(), ("a",), ("a", "a"), ("a", "b"), ("a'",), ("b",)]
        traces = [(), (("a",),), (("a",), ("a",)), (("a",), ("b",)), (("a", "a"),), (("a", "b'"),), (("b",),)]
        terms = [(1, told, word) for told in traces for word in words]
        self.assertEqual(Formula(True, terms[::-1]).terms, tuple(terms))
        self.assertEqual(Formula(False, [(1, told, None) for told in traces[::-1]]).terms, tuple((1, told, None) for told in traces))

    def test_letters_of_terms_that_go(self):
        formula = Formula(True, [(1, [["z"]], []), (-1, [["z'"]], []), (0, [], ["y"]), (1, [["b'", "c"]], ["a'"])])
        self.assertEqual(formula.letters, ("a", "b", "c"))
        self.assertEqual(Formula(True, []).letters, ())
        self.assertEqual(Formula.of([letter + "'" for letter in ALPHABET[::-1]]).letters, tuple(ALPHABET))

    def test_a_list_changed_later(self):
        trace, word = ["b", "a"], ["c"]
        traces = [trace]
        term = [2, traces, word]
        terms = [term]
        formula = Formula(True, terms)
        trace.append("z")
        word[0] = "y"
        traces.append(["x"])
        term[0] = 9
        terms.append([1, [], []])
        self.assertEqual(formula.terms, ((2, (("a", "b"),), ("c",)),))
        self.assertEqual(terms, [[9, [["b", "a", "z"], ["x"]], ["y"]], [1, [], []]])

    def test_equal(self):
        formula = Formula(True, [(1, [["a", "b"]], ["c"]), (2, [], [])])
        alike = Formula(True, [(2, (), ()), (1, ((("b'", "a'")),), ("c",))])
        self.assertTrue(formula == alike)
        self.assertFalse(formula != alike)
        unlike = [Formula(True, []), Formula.of(["c"]), formula.times(2), formula.turned(), Formula(False, [(2, [], None)]), Sum.of((0,))]
        for other in unlike + ODD_VALUES + [str(formula), formula.terms, (True, formula.terms)]:
            self.assertIs(formula == other, False)
            self.assertIs(formula != other, True)
        self.assertFalse(Formula(True, []) == Formula(False, []))
        self.assertTrue(Formula(False, []) == Formula(False, [(0, [["a"]], None)]))

    def test_of(self):
        draw = random.Random(2)
        for _ in range(50):
            word = drawn_word(draw, 5)
            self.assertEqual(Formula.of(word).terms, ((1, (), tuple(word)),))
            self.assertEqual(Formula.of(word=tuple(word)), Formula(True, [(1, [], word)]))
        for value in NO_WORDS + ODD_VALUES:
            self.refused(BadWord("word"), Formula.of, value)

    def test_refused(self):
        for value in [None, 0, 1, "True", [], (), 1.0, [True], *[value for value in ODD_VALUES if type(value) is not bool]]:
            self.refused(BadFormula("is_table"), Formula, value, [])
            self.refused(BadFormula("is_table"), Formula, value, None)
        bad = [None, 1, "", "abc", {}, {1: 2}, [1], [None], [()], [(1,)], [(1, [])], [(1, [], [], [])], [("1", [], [])],
               [(True, [], [])], [(None, [], [])], [(1.0, [], [])], [([], 1, [])], [(1, None, [])], [(1, "a", [])], [(1, ["a"], [])],
               [(1, [[]], [])], [(1, [["a"], []], [])], [(1, [["A"]], [])], [(1, [[1]], [])], [(1, {"a": 1}, [])], [(1, [["a"], None], [])],
               iter([(1, [], [])]), Formula(True, []), [(1, [], []), (1, [[]], [])], [(0, [[]], [])], [{1: 2, 3: 4, 5: 6}], ["abc"],
               (1, [], [])]
        for terms in bad:
            self.refused(BadFormula("terms"), Formula, True, terms)
            numbers = [(*term[:2], None) if type(term) is tuple and len(term) == 3 else term for term in terms] \
                if type(terms) is list else terms
            self.refused(BadFormula("terms"), Formula, False, numbers)
        for word in [None, *NO_WORDS]:
            self.refused(BadFormula("terms"), Formula, True, [(1, [], []), (1, [], word)])
        for word in [[], (), ["a"], False, 0, "", "a", {}]:
            self.refused(BadFormula("terms"), Formula, False, [(1, [], None), (1, [["a"]], word)])
            self.refused(BadFormula("terms"), Formula, terms=[(0, [["a"]], word)], is_table=False)
        for word in NO_WORDS:
            self.refused(BadFormula("terms"), Formula, False, [(1, [word], None)])


class CountsTest(Case):
    def test_two_formulas(self):
        draw = random.Random(3)
        for is_table in KINDS:
            for number in range(40):
                one, other = [drawn_formula(draw, is_table, 6, (3, GREAT)[number % 2], "ab") for _ in range(2)]
                before = (one.terms, other.terms)
                less = tuple((-weight, traces, word) for weight, traces, word in other.terms)
                self.assertEqual((one + other).terms, listed(bag(one.terms + other.terms)))
                self.assertEqual((one - other).terms, listed(bag(one.terms + less)))
                self.assertEqual((one - one).terms, ())
                self.assertEqual(((one + other).is_table, (one - other).is_table), (is_table, is_table))
                self.assertEqual((one.terms, other.terms), before)

    def test_products(self):
        draw = random.Random(4)
        for first in KINDS:
            for second in KINDS:
                for _ in range(30):
                    one, other = drawn_formula(draw, first, 5, 5, "ab"), drawn_formula(draw, second, 5, 5, "ab")
                    terms = []
                    for weight, traces, word in one.terms:
                        for more, others, then in other.terms:
                            both = (word or ()) + (then or ()) if first or second else None
                            terms.append((weight * more, traces + others, both))
                    product = one * other
                    self.assertEqual(product.terms, listed(bag(terms)))
                    self.assertIs(product.is_table, first or second)
        a, b = Formula.of(["a"]), Formula.of(["b"])
        self.assertEqual(((a * b).terms, (b * a).terms), (((1, (), ("a", "b")),), ((1, (), ("b", "a")),)))
        self.assertEqual((a.trace() * b.trace()).terms, ((1, (("a",), ("b",)), None),))

    def test_one_formula(self):
        draw = random.Random(5)
        for is_table in KINDS:
            for _ in range(40):
                formula = drawn_formula(draw, is_table)
                for number in (0, 1, -1, 7, -GREAT):
                    want = [(number * weight, traces, word) for weight, traces, word in formula.terms]
                    self.assertEqual(formula.times(number).terms, listed(bag(want)))
                self.assertEqual(formula.times(number=3), formula + formula + formula)
                turned = [(weight, traces, own_turned_word(word) if is_table else None) for weight, traces, word in formula.terms]
                self.assertEqual(formula.turned().terms, listed(bag(turned)))
                self.assertIs(formula.turned().is_table, is_table)
                self.assertEqual(formula.turned().turned(), formula)

    def test_trace(self):
        draw = random.Random(6)
        for _ in range(40):
            terms = [(draw.randint(-5, 5), [drawn_word(draw, 3, least=1)], drawn_word(draw, 3, least=1)) for _ in range(5)]
            formula = Formula(True, terms)
            want = bag([(weight, traces + [word], None) for weight, traces, word in terms])
            self.assertEqual(formula.trace().terms, listed(want))
            self.assertIs(formula.trace().is_table, False)
            self.assertEqual(formula.turned().trace(), formula.trace())
            more = formula + Formula(True, [(1, [["z"]], [])])
            self.refused(Misfit("unit"), more.trace)
            self.refused(Misfit("kinds"), formula.trace().trace)
        self.assertEqual(Formula(True, []).trace(), Formula(False, []))
        self.refused(Misfit("kinds"), Formula(False, []).trace)
        self.refused(Misfit("unit"), Formula(True, [(3, [], [])]).trace)

    def test_with_word(self):
        draw = random.Random(7)
        for number in range(120):
            is_table = number % 2 == 0
            formula = drawn_formula(draw, is_table, 5, 5, "ab")
            letter, word = draw.choice("abz"), drawn_word(draw, 3, "abd")
            terms = [(weight, [put(trace, letter, word) for trace in traces], None if told is None else put(told, letter, word))
                     for weight, traces, told in formula.terms]
            if any(trace == () for _, traces, _ in terms for trace in traces):
                self.refused(Misfit("unit"), formula.with_word, letter, word)
            else:
                new = formula.with_word(letter, word)
                self.assertEqual(new.terms, listed(bag(terms)))
                self.assertIs(new.is_table, is_table)
                self.assertEqual(formula.with_word(word=tuple(word), letter=letter), new)

    def test_with_word_turned_over(self):
        formula = Formula(True, [(1, [["a", "b'"]], ["b", "a", "b'"])])
        self.assertEqual(formula.with_word("b", ["c", "d'"]).terms, ((1, (("a", "d", "c'"),), ("c", "d'", "a", "d", "c'")),))
        self.assertEqual(formula.with_word("a", ["b"]).terms, ((1, (("b", "b'"),), ("b", "b", "b'")),))
        self.assertEqual(formula.with_word("b", []).terms, ((1, (("a",),), ("a",)),))
        self.assertEqual(formula.with_word("b", ["b"]), formula)
        self.assertEqual(formula.with_word("b", ["b'"]).terms, ((1, (("a", "b"),), ("b'", "a", "b")),))
        self.assertEqual(formula.with_word("z", []), formula)
        self.refused(Misfit("unit"), Formula(False, [(1, [["b"], ["a", "a'"]], None)]).with_word, "a", [])

    def test_terms_that_meet(self):
        apart = Formula.of(["a", "b"]) - Formula.of(["b", "a"])
        self.assertEqual(apart.with_word("b", ["a"]).terms, ())
        self.assertEqual(apart.trace().terms, ())

    def test_too_many_products(self):
        words = [[one, two] for one in ALPHABET for two in ALPHABET]
        formulas = {many: Formula(True, [(1, [], word) for word in words[:many]]) for many in (100, 113, 177, 200, 31)}
        numbers = {many: Formula(False, [(1, [[str(ALPHABET[k % 26])]] * (k // 26 + 1), None) for k in range(many)]) for many in (646, 200)}
        self.assertEqual(len((formulas[100] * formulas[200]).terms), 20000)
        self.assertEqual(len((formulas[100] * numbers[200]).terms), 20000)
        for one, other in ((formulas[177], formulas[113]), (formulas[113], formulas[177]), (numbers[646], formulas[31]),
                           (numbers[646], numbers[200])):
            self.refused(TooMany("products", 20000), Formula.__mul__, one, other)
        self.assertEqual(formulas[200] * Formula(True, []), Formula(True, []))

    def test_refused(self):
        table, number = Formula.of(["a"]), Formula(False, [(1, [["a"]], None)])
        for function in (Formula.__add__, Formula.__sub__):
            self.refused(Misfit("kinds"), function, table, number)
            self.refused(Misfit("kinds"), function, number, table)
            self.refused(Misfit("kinds"), function, Formula(True, []), Formula(False, []))
        for value in [True, None, "1", 1.0, [1], *ODD_VALUES]:
            self.refused(BadNumber("number"), table.times, value)
            self.refused(BadNumber("number"), Formula(False, []).times, value)
        for value in NO_LETTERS + [value for value in ODD_VALUES if value != "a"]:
            self.refused(BadWord("letter"), table.with_word, value, ["b"])
            self.refused(BadWord("letter"), table.with_word, value, None)
        for value in NO_WORDS + ODD_VALUES:
            self.refused(BadWord("word"), table.with_word, "a", value)
            self.refused(BadWord("word"), number.with_word, "z", value)
        self.refused(Misfit("unit"), number.with_word, "a", [])
        self.refused(Misfit("unit"), number.with_word, "a", ())
