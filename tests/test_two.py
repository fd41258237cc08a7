"""Words of two tables of two rows, against own products of tables with the five numbers put in."""

import random
import time
from itertools import product

from fromsize.errors import BadFormula, BadWord, Misfit, TooMany
from fromsize.formulas import Formula
from fromsize.one import cayley, one_rule
from fromsize.pure import backwards, signed_sum
from fromsize.rules import rule
from fromsize.two import alike_at_two, at_two, trace_at_two
from tests.own import GREAT, ODD_VALUES, Case
from tests.own_formulas import NO_WORDS, drawn_table, own_added, own_scaled, own_trace, own_value, word_product
from tests.own_rules import drawn_rule, is_nothing_at
from tests.test_led import NO_FORMULAS


def all_words(most):
    return [word for many in range(most + 1) for word in product("ab", repeat=many)]


def determinant(table):
    return table[0][0] * table[1][1] - table[0][1] * table[1][0]


def five_numbers(tables):
    one, other = tables["a"], tables["b"]
    return (own_trace(one), determinant(one), own_trace(other), determinant(other), own_trace(word_product("ab", tables, 2)))


def put_in(polynomial, numbers):
    found = 0
    for weight, exponents in polynomial:
        for number, power in zip(numbers, exponents):
            weight *= number ** power
        found += weight
    return found


def drawn_two(draw, great=4):
    return {letter: drawn_table(draw, 2, great) for letter in "ab"}


def drawn_word(draw, least=0, most=12):
    return [draw.choice("ab") for _ in range(draw.randint(least, most))]


def drawn_terms(draw, is_table, most=4, strings=8):
    terms = []
    for _ in range(draw.randint(1, most)):
        word = drawn_word(draw, 0, strings)
        cuts = sorted(draw.sample(range(len(word) + 1), min(2, len(word))))
        pieces = [word[start:stop] for start, stop in zip([0] + cuts, cuts + [len(word)])]
        traces = [piece for piece in pieces[1:] if piece]
        terms.append((draw.randint(-4, 4), traces if is_table else traces + [pieces[0]] * bool(pieces[0]), pieces[0] if is_table else None))
    return terms


class WordsTest(Case):
    def told_rightly(self, polynomial):
        """As polynomials are told: ascending, each exponents once, no weight 0."""
        self.assertIs(type(polynomial), tuple)
        told = [exponents for _, exponents in polynomial]
        self.assertEqual(told, sorted(set(told)))
        for weight, exponents in polynomial:
            self.assertTrue(type(weight) is int and weight != 0)
            self.assertEqual((type(exponents), len(exponents)), (tuple, 5))
            self.assertTrue(all(type(power) is int and power >= 0 for power in exponents))

    def against_products(self, word, tables):
        numbers = five_numbers(tables)
        parts = at_two(word)
        self.assertEqual((type(parts), len(parts)), (tuple, 4))
        found = [[0, 0], [0, 0]]
        for part, told in zip(parts, ("", "a", "b", "ab")):
            self.told_rightly(part)
            found = own_added(found, own_scaled(put_in(part, numbers), word_product(told, tables, 2)))
        want = word_product(word, tables, 2)
        self.assertEqual(found, want)
        self.told_rightly(trace_at_two(word))
        self.assertEqual(put_in(trace_at_two(word), numbers), own_trace(want))

    def test_all_short_words(self):
        draw = random.Random(1)
        tables = [drawn_two(draw), drawn_two(draw, GREAT)]
        for word in all_words(6):
            for told in tables:
                self.against_products(word, told)

    def test_drawn_words(self):
        draw = random.Random(2)
        for _ in range(80):
            word = drawn_word(draw, 7)
            for great in (3, GREAT):
                self.against_products(word, drawn_two(draw, great))
            self.assertEqual(at_two(word=tuple(word)), at_two(word))
            self.assertEqual(trace_at_two(word=tuple(word)), trace_at_two(word))
        for word in (["a"] * 12, ["b"] * 12, ["a", "b"] * 6, ["b", "a"] * 6, ["b"] * 6 + ["a"] * 6):
            self.against_products(word, drawn_two(draw))

    def test_just_one_such(self):
        """Two polynomials that are unlike are so for drawn tables: what is told hangs on the word alone."""
        draw = random.Random(3)
        tables = [drawn_two(draw, 50) for _ in range(6)]
        for one, other in product(all_words(4), repeat=2):
            alike = all(word_product(one, told, 2) == word_product(other, told, 2) for told in tables)
            self.assertIs(at_two(one) == at_two(other), alike)
            traced = all(own_trace(word_product(one, told, 2)) == own_trace(word_product(other, told, 2)) for told in tables)
            self.assertIs(trace_at_two(one) == trace_at_two(other), traced)

    def test_backwards(self):
        """The same trace, and x + y a + z b + w b a."""
        draw = random.Random(4)
        for word in all_words(5) + [tuple(drawn_word(draw, 6)) for _ in range(30)]:
            self.assertEqual(trace_at_two(backwards(word)), trace_at_two(word))
            tables = drawn_two(draw)
            numbers = five_numbers(tables)
            found = [[0, 0], [0, 0]]
            for part, told in zip(at_two(word), ("", "a", "b", "ba")):
                found = own_added(found, own_scaled(put_in(part, numbers), word_product(told, tables, 2)))
            self.assertEqual(found, word_product(word[::-1], tables, 2))

    def test_traces_begun_anew(self):
        draw = random.Random(5)
        for _ in range(30):
            word = drawn_word(draw, 1)
            k = draw.randrange(len(word))
            self.assertEqual(trace_at_two(word[k:] + word[:k]), trace_at_two(word))

    def test_edges(self):
        one = ((1, (0, 0, 0, 0, 0)),)
        self.assertEqual(at_two(()), (one, (), (), ()))
        self.assertEqual(at_two(["a"]), ((), one, (), ()))
        self.assertEqual(at_two(["b"]), ((), (), one, ()))
        self.assertEqual(at_two(["a", "b"]), ((), (), (), one))
        self.assertEqual(trace_at_two([]), ((2, (0, 0, 0, 0, 0)),))
        self.assertEqual(trace_at_two(["a"]), ((1, (1, 0, 0, 0, 0)),))
        self.assertEqual(trace_at_two(["b"]), ((1, (0, 0, 1, 0, 0)),))
        self.assertEqual(trace_at_two(["b", "a"]), ((1, (0, 0, 0, 0, 1)),))
        self.assertEqual(trace_at_two(["a"] * 2), ((-2, (0, 1, 0, 0, 0)), (1, (2, 0, 0, 0, 0))))
        # The determinants of a b a b: of a b, which is p q, twice.
        self.assertEqual(trace_at_two(["a", "b"] * 2), ((1, (0, 0, 0, 0, 2)), (-2, (0, 1, 0, 1, 0))))

    def test_refused(self):
        for function in (at_two, trace_at_two):
            for value in NO_WORDS + ODD_VALUES:
                if value not in ([], ()):
                    self.refused(BadWord("word"), function, value)
            for word in (["a'"], ["b'"], ["c"], ["a", "b", "c"], ["a", "b'"], ["a"] * 13 + ["c"], ["z"] * 13, ["a'"] * 13):
                self.refused(BadWord("word"), function, word)
            for many in (13, 14, 100):
                self.refused(TooMany("letters", 12), function, ["a"] * many)
            function(["b"] * 12)


class AlikeTest(Case):
    def asked(self, one, other, want=None):
        told = alike_at_two(one, other)
        self.assertIs(type(told), bool)
        self.assertIs(alike_at_two(other=one, one=other), told)
        if want is not None:
            self.assertIs(told, want)
        return told

    def alike(self, one, other, draw):
        """Whether the values are alike for drawn tables."""
        return is_nothing_at(draw, one - other, 2, 6, 20)

    def test_drawn_formulas(self):
        draw = random.Random(6)
        for is_table in (True, False):
            for number in range(40):
                strings = (3, 8, 12)[number % 3]
                one, other = [Formula(is_table, drawn_terms(draw, is_table, 3, strings)) for _ in range(2)]
                self.asked(one, other, self.alike(one, other, draw))
                self.asked(one, one, True)
                self.asked(one, one + other.times(0), True)

    def test_formulas_that_are_alike(self):
        """With something that the one rule of size 2 makes put beside, in words and traces, up to twelve strings."""
        draw = random.Random(7)
        for is_table in (True, False):
            for _ in range(12):
                one = Formula(is_table, drawn_terms(draw, is_table, 3, 8))
                words = [drawn_word(draw, 1, 3) for _ in range(3)]
                number = one_rule(words) * Formula(False, [(draw.choice([-1, 2]), [drawn_word(draw, 1, 3)], None)])
                more = number
                if is_table:
                    more = draw.choice([number * Formula.of([]), cayley(words[:2]) * Formula.of(drawn_word(draw, 0, 3)),
                                        Formula.of(drawn_word(draw, 0, 3)) * cayley(words[1:])])
                self.asked(one, one + more, True)
                self.asked(one + more.times(3), one - more, True)
                self.asked(one, one + more + Formula(is_table, [(1, [["a"]], ["b"] if is_table else None)]), False)
        pair = Formula.of(["a", "b"]) - Formula.of(["b", "a"])
        for word in ([], ["a"], ["b", "a", "a"]):
            told = Formula.of(word)
            self.asked(pair * pair * told, told * pair * pair, True)
            self.asked(pair * told, told * pair, word == [])

    def test_against_rule(self):
        """Alike exactly if the one less the other is a rule of size 2."""
        draw = random.Random(8)
        for is_table in (True, False):
            for number in range(24):
                if number % 2:
                    one = drawn_rule(draw, draw.choice([1, 2]), is_table, 1, "ab")
                    other = Formula(is_table, [])
                else:
                    one, other = [Formula(is_table, drawn_terms(draw, is_table, 2, 4)) for _ in range(2)]
                self.asked(one, other, bool(rule(one - other, 2)))

    def test_told_in_the_document(self):
        ab, ba = Formula.of(["a", "b"]), Formula.of(["b", "a"])
        around = Formula(True, [(1, [["a"]], ["b"]), (1, [["b"]], ["a"]), (1, [["a", "b"]], []), (-1, [["a"], ["b"]], [])])
        self.asked(ab + ba, around, True)
        self.asked(ab, ba, False)
        self.asked(ab.trace(), ba.trace(), True)
        self.asked(Formula.of(["a"]) * Formula.of(["a"]), Formula.of(["a"]), False)
        self.asked(Formula(False, []), Formula(False, []), True)
        self.asked(Formula(True, []), Formula(True, []), True)
        self.asked(Formula(True, []), signed_sum(["a", "b", "a"]), True)
        self.asked(Formula(False, [(2, [], None)]), Formula(False, [(3, [], None)]), False)
        # A number times the unit table, and a word: never alike, though traces may be.
        self.asked(Formula(True, [(1, [["a"]], [])]), Formula.of(["a"]), False)
        self.asked(Formula.of(["a"] * 2), Formula(True, [(1, [["a"]], ["a"]), (1, [["a", "a"]], [])]), False)
        word = ["a", "a", "b", "a", "b", "b"]
        self.asked(Formula.of(word).trace(), Formula.of(backwards(word)).trace(), True)
        self.asked(Formula.of(word), Formula.of(backwards(word)), False)

    def test_values(self):
        draw = random.Random(9)
        tables = drawn_two(draw, GREAT)
        words = [drawn_word(draw, 1, 3) for _ in range(2)]
        one = Formula.of(["a"]) * cayley(words)
        self.asked(one, Formula(True, []), True)
        self.assertEqual(own_value(one.terms, True, tables, 2), ((0, 0), (0, 0)))

    def test_refused(self):
        table, number = Formula.of(["a", "b"]), Formula(False, [(1, [["a", "b"]], None)])
        long, longer = Formula.of(["a"] * 13), Formula(False, [(1, [["a"] * 6, ["b"] * 7], None)])
        bad = [Formula.of(["a", "c"]), Formula.of(["a'"]), Formula(False, [(1, [["a", "b'"]], None)]), Formula(True, [(1, [["z"]], [])]),
               Formula.of(["c"] * 13), table + Formula.of(["b'"])]
        for value in NO_FORMULAS + bad:
            for right in (table, number, long):
                self.refused(BadFormula("one"), alike_at_two, value, right)
                self.refused(BadFormula("one"), alike_at_two, value, None)
                self.refused(BadFormula("other"), alike_at_two, right, value)
        for one, other in ((table, number), (number, table), (long, longer), (Formula(True, []), Formula(False, [])), (table, longer)):
            self.refused(Misfit("kinds"), alike_at_two, one, other)
        thick = Formula(True, [(1, [["a"] * 6, ["b"] * 3], ["a"] * 4)])
        for one, other in ((table, long), (long, table), (long, long), (number, longer), (table, thick), (thick, table)):
            self.refused(TooMany("letters", 12), alike_at_two, one, other)
        twelve = Formula(True, [(1, [["a"] * 6, ["b"] * 3], ["a"] * 3)])
        self.asked(twelve, twelve, True)
        # Told by its least word, this trace has no letter turned over.
        self.asked(Formula(False, [(1, [["a'", "b'"]], None)]), number, True)

    def test_in_a_short_time(self):
        draw = random.Random(10)
        start = time.process_time()
        for is_table in (True, False):
            one, other = [Formula(is_table, [term for _ in range(150) for term in drawn_terms(draw, is_table, 4, 12)]) for _ in range(2)]
            self.assertFalse(alike_at_two(one, other))
            self.assertTrue(alike_at_two(one + other, other + one))
        self.assertLess(time.process_time() - start, 3)
