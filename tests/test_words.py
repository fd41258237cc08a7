"""Words, against all words that begin at any string."""

import random
from itertools import product

from fromsize.errors import BadWord
from fromsize.words import is_word, round_of, turned_word
from tests.own import ODD_VALUES, Case
from tests.own_formulas import ALPHABET, NO_WORDS, drawn_word, own_round, own_turned_word

STRINGS = ["a", "a'", "b", "b'", "c"]


class IsWordTest(Case):
    def test_all_letters(self):
        for letter in ALPHABET:
            self.assertIs(is_word([letter]), True)
            self.assertIs(is_word((letter + "'",)), True)
            self.assertIs(is_word([letter.upper()]), False)
            self.assertIs(is_word(letter), False)
        self.assertIs(is_word([letter + "'" for letter in ALPHABET] + list(ALPHABET)), True)
        for code in range(32, 127):
            self.assertIs(is_word([chr(code)]), chr(code) in ALPHABET)
            self.assertIs(is_word(["a" + chr(code)]), chr(code) == "'")
            self.assertIs(is_word([chr(code) + "'"]), chr(code) in ALPHABET)

    def test_values_of_all_kinds(self):
        for value in NO_WORDS + ODD_VALUES:
            self.assertIs(is_word(value), False)
        self.assertIs(is_word([]), True)
        self.assertIs(is_word(value=()), True)
        self.assertIs(is_word(("a", "b'")), True)
        for bad in NO_WORDS[9:]:
            if type(bad) is list:
                self.assertIs(is_word(["a"] + bad), False)
                self.assertIs(is_word(bad + ["a"]), False)


class TurnedTest(Case):
    def test_against_own(self):
        for many in range(5):
            for word in product(STRINGS, repeat=many):
                self.assertEqual(turned_word(word), own_turned_word(word))
                self.assertEqual(turned_word(word=list(turned_word(list(word)))), word)

    def test_refused(self):
        for value in NO_WORDS + ODD_VALUES:
            self.refused(BadWord("word"), turned_word, value)
            self.refused(BadWord("word"), round_of, value)


class RoundTest(Case):
    def test_all_short_words(self):
        for many in range(6):
            for word in product(STRINGS[:3], repeat=many):
                self.assertEqual(round_of(word), own_round(word))
        for many in range(10):
            for word in product("ab", repeat=many):
                self.assertEqual(round_of(list(word)), own_round(word))

    def test_drawn_words(self):
        draw = random.Random(1)
        for _ in range(600):
            word = drawn_word(draw, 14, draw.choice(["ab", "abc", ALPHABET]))
            least = round_of(word=word)
            self.assertEqual(least, own_round(word))
            self.assertIs(type(least), tuple)
            at = draw.randint(0, len(word))
            begun = word[at:] + word[:at]
            for other in (begun, turned_word(begun), least, turned_word(least)):
                self.assertEqual(round_of(other), least)

    def test_facts(self):
        draw = random.Random(2)
        for _ in range(200):
            word = drawn_word(draw, 6, "abc", draw.random() < 0.5, 1)
            least = round_of(word)
            self.assertEqual(len(least[0]), 1)
            if not any("'" in string for string in word):
                self.assertFalse(any("'" in string for string in least))

    def test_empty(self):
        self.assertEqual([round_of([]), round_of(()), turned_word([])], [(), (), ()])
        self.assertEqual([round_of(["a'"]), round_of(["b", "a'"]), round_of(["a'", "a'"])], [("a",), ("a", "b'"), ("a", "a")])

    def test_in_words(self):
        self.assertEqual(turned_word(["b", "a'", "a"]), ("a'", "a", "b'"))

    def test_long_words(self):
        for word in (["a"] * 30000, ["a", "b"] * 15000, ["b"] * 29999 + ["a"], ["a"] * 29999 + ["a'"]):
            least = round_of(word)
            self.assertEqual(sorted(least), sorted(word))
            self.assertEqual(least[0], "a")
        self.assertEqual(round_of(["b"] * 29999 + ["a"]), ("a",) + ("b",) * 29999)
