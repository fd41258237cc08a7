"""The one rule and its table form, against all wirings of the test's own."""

import random

from fromsize.errors import BadWord, Misfit, TooMany
from fromsize.formulas import Formula
from fromsize.one import cayley, one_rule
from fromsize.values import value_of
from tests.own import ODD_VALUES, Case
from tests.own_formulas import NO_WORDS, as_terms, drawn_tables, drawn_word, own_value
from tests.own_rules import is_nothing_at, own_cayley, own_one


def drawn_words(draw, many, letters="abc", most=3, turned=True):
    """So many words with a string at least; now and then one comes again."""
    words = [drawn_word(draw, most, letters, turned, 1) for _ in range(many)]
    if many > 1 and draw.random() < 0.4:
        words[draw.randrange(many)] = list(draw.choice(words))
    return words


class OneRuleTest(Case):
    def test_against_all_wirings(self):
        draw = random.Random(1)
        for many in range(2, 7):
            for number in range(10 if many < 6 else 3):
                words = drawn_words(draw, many, "abcdef"[:draw.randint(1, 6)], 3, number % 2 == 0)
                formula = one_rule(words)
                self.assertIs(formula.is_table, False)
                self.assertEqual(as_terms(formula), own_one(words))
                self.assertEqual(one_rule(words=tuple(tuple(word) for word in words)), formula)

    def test_letters_apart(self):
        """With a letter for each word there is a term for each wiring."""
        for many, terms in ((2, 2), (3, 6), (4, 24), (5, 120), (6, 720)):
            formula = one_rule([[letter] for letter in "abcdef"[:many]])
            self.assertEqual(len(formula.terms), terms)
            self.assertEqual(as_terms(formula), own_one([[letter] for letter in "abcdef"[:many]]))
            self.assertEqual({weight for weight, _, _ in formula.terms}, {1, -1})

    def test_two_words_exchanged(self):
        draw = random.Random(2)
        for many in (2, 3, 4, 5, 6):
            words = drawn_words(draw, many)
            formula = one_rule(words)
            for _ in range(3):
                self.assertEqual(one_rule(draw.sample(words, many)), formula)

    def test_words_begun_anew_differ(self):
        """A word read round is another word, though its trace is the same."""
        one, other = one_rule([["a", "b"], ["c"]]), one_rule([["b", "a"], ["c"]])
        self.assertEqual(str(one), "number : 1 ( a b ) ( c ) / -1 ( a b c )")
        self.assertEqual(str(other), "number : 1 ( a b ) ( c ) / -1 ( a c b )")

    def test_values(self):
        """Of d + 1 words: nothing at size d and at less, something at size d + 1."""
        draw = random.Random(3)
        for size in (1, 2, 3, 4):
            for turned in (True, False):
                words = drawn_words(draw, size + 1, "abcd", 2 if size < 4 else 1, turned)
                for less in range(1, size + 1):
                    self.assertTrue(is_nothing_at(draw, one_rule(words), less, 3))
                apart = [[letter, letter] for letter in "abcdef"[:size + 1]]
                self.assertFalse(is_nothing_at(draw, one_rule(apart), size + 1))
        self.assertTrue(is_nothing_at(draw, one_rule([[letter] for letter in "abcdef"]), 5, 2))
        self.assertFalse(is_nothing_at(draw, one_rule([[letter] for letter in "abcdef"]), 6, 2))

    def test_refused(self):
        self.refused_likewise(one_rule)
        for words in ([], (), [["a"]], (("a", "b"),)):
            self.refused(Misfit("words"), one_rule, words)
        for many in (7, 8, 50):
            self.refused(TooMany("words", 6), one_rule, [["a"]] * many)
        self.assertEqual(len(one_rule([["a"]] * 6).letters), 1)

    def refused_likewise(self, function):
        """What is no list of words with a string at least, whatever else is wrong."""
        for value in NO_WORDS + ODD_VALUES:
            if value not in ((), [], {}) and not isinstance(value, (list, tuple)):
                self.refused(BadWord("words"), function, value)
            if value not in ([], ()):
                self.refused(BadWord("words"), function, [value, ["b"]])
                self.refused(BadWord("words"), function, (["a"], value))
                self.refused(BadWord("words"), function, [["a"]] * 9 + [value])
        for words in ([[]], [()], [["a"], []], [[], ["a"]], [["a"], ["b"], ()], [["a"]] * 8 + [[]], [["*"]], [["a", "*"], ["b"]], "ab",
                      ["a", "b"], ("a",), [[["a"]]], {"a": 1}, {("a",)}, iter([["a"], ["b"]]), None, 3, [["a"], "b"], [["a''"]]):
            self.refused(BadWord("words"), function, words)


class CayleyTest(Case):
    def test_against_all_wirings(self):
        draw = random.Random(4)
        for many in range(1, 6):
            for number in range(10 if many < 5 else 3):
                words = drawn_words(draw, many, "abcde"[:draw.randint(1, 5)], 3, number % 2 == 0)
                formula = cayley(words)
                self.assertIs(formula.is_table, True)
                self.assertEqual(as_terms(formula), own_cayley(words))
                self.assertEqual(cayley(words=tuple(tuple(word) for word in words)), formula)

    def test_times_a_word_traced(self):
        draw = random.Random(5)
        for many in range(1, 6):
            for _ in range(4 if many < 5 else 2):
                words, first = drawn_words(draw, many, "abc", 2), drawn_word(draw, 2, "abcd", True, 1)
                self.assertEqual((cayley(words) * Formula.of(first)).trace(), one_rule([first] + words))
                self.assertEqual((Formula.of(first) * cayley(words)).trace(), one_rule(words + [first]))

    def test_two_words_exchanged(self):
        draw = random.Random(6)
        for many in (2, 3, 4, 5):
            words = drawn_words(draw, many)
            self.assertEqual(cayley(draw.sample(words, many)), cayley(words))

    def test_values(self):
        draw = random.Random(7)
        for size in (1, 2, 3, 4):
            words = drawn_words(draw, size, "abcd", 2 if size < 4 else 1)
            for less in range(1, size + 1):
                self.assertTrue(is_nothing_at(draw, cayley(words), less, 3))
            apart = [[letter] for letter in "abcd"[:size]]
            self.assertFalse(is_nothing_at(draw, cayley(apart), size + 1))
        self.assertTrue(is_nothing_at(draw, cayley([["a"]] * 5), 5, 2))

    def test_powers_of_one_table(self):
        """With one table in all places: d (d - 1) .. 1 times, with a sign, how its powers hang together."""
        draw = random.Random(8)
        for size, factor in ((1, -1), (2, 2), (3, -6)):
            formula = cayley([["a"]] * size)
            tables = drawn_tables(draw, size, "a", 4)
            table = tables["a"]
            highest = {word: weight for weight, traces, word in formula.terms if traces == ()}
            self.assertEqual(highest, {("a",) * size: factor})
            self.assertEqual(value_of(formula, tables, size), ((0,) * size,) * size)
            self.assertEqual(own_value(formula.terms, True, {"a": table}, size), ((0,) * size,) * size)
        square = [(2, [], ["a", "a"]), (-2, [["a"]], ["a"]), (1, [["a"], ["a"]], []), (-1, [["a", "a"]], [])]
        self.assertEqual(cayley([["a"], ["a"]]), Formula(True, square))

    def test_refused(self):
        OneRuleTest.refused_likewise(self, cayley)
        for words in ([], ()):
            self.refused(Misfit("words"), cayley, words)
        for many in (6, 7, 50):
            self.refused(TooMany("words", 5), cayley, [["a"]] * many)
        self.assertEqual(cayley([["a"]] * 5).letters, ("a",))
