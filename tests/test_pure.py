"""Rules without traces, against all orders, drawn tables, and ranks of the test's own."""

import random
import time
from itertools import permutations, product
from math import factorial, gcd

from fromsize.errors import BadNumber, BadWord, TooMany
from fromsize.formulas import Formula
from fromsize.pure import backwards, pure_list, pure_many, signed_sum
from fromsize.rules import rule
from fromsize.values import value_of
from tests.own import GREAT, ODD_VALUES, Case, own_colours, own_longest, own_sign, rows_of, walked
from tests.own_formulas import NO_WORDS, as_terms, drawn_tables, drawn_word, own_value
from tests.own_rules import is_nothing_at, own_rank
from tests.test_rules import NO_SIZES


def words_of(many):
    return list(permutations("abcde"[:many]))


def own_rows(many, size):
    """For each word, ascending, for each kept wiring of a wire more whether its settings are led."""
    settings = []
    for row in rows_of(many + 1):
        if own_longest(row) <= size:
            settings.append((own_colours(row), walked(row, own_colours(row))))
    rows = []
    for order in permutations(range(many)):
        goes = dict(zip((many,) + order, order + (many,)))
        wiring = tuple(goes[wire] for wire in range(many + 1))
        rows.append([int(walked(wiring, tops) == bottoms) for tops, bottoms in settings])
    return rows


class SignedSumTest(Case):
    def own(self, word):
        found = {}
        for order in permutations(range(len(word))):
            key = ((), tuple(word[k] for k in order))
            found[key] = found.get(key, 0) + own_sign(order)
        return {key: weight for key, weight in found.items() if weight != 0}

    def test_all_orders(self):
        draw = random.Random(1)
        for many in range(0, 7):
            for _ in range(6 if many < 6 else 2):
                word = drawn_word(draw, many, "abcdef", True, many)
                formula = signed_sum(word)
                self.assertIs(formula.is_table, True)
                self.assertEqual(as_terms(formula), self.own(word))
                self.assertEqual(signed_sum(letters=tuple(word)), formula)
                self.assertIs(formula.terms == (), len(set(word)) < len(word))
            apart = list("abcdef"[:many])
            self.assertEqual(len(signed_sum(apart).terms), factorial(many))
            draw.shuffle(apart)
            self.assertEqual(as_terms(signed_sum(apart)), self.own(apart))

    def test_edges(self):
        self.assertEqual(signed_sum(()), Formula.of([]))
        self.assertEqual(str(signed_sum(["a", "a'"])), "table : 1 a a' / -1 a' a")
        self.assertEqual(signed_sum(["b", "a", "c"]), signed_sum(["a", "b", "c"]).times(-1))
        for many in (2, 4, 6):
            self.assertEqual(signed_sum(list("abcdef"[:many])).trace().terms, ())
        self.assertEqual(len(signed_sum(list("abc")).trace().terms), 2)

    def test_sizes(self):
        """Of 2 d letters a rule of size d, of less none."""
        draw = random.Random(2)
        for many, size in ((2, 1), (4, 2), (6, 3)):
            formula = signed_sum(list("abcdef"[:many]))
            self.assertTrue(is_nothing_at(draw, formula, size, 2))
            self.assertFalse(is_nothing_at(draw, formula, size + 1))
            self.assertFalse(is_nothing_at(draw, signed_sum(list("abcdef"[:many - 1])), size))
        self.assertTrue(rule(signed_sum(list("abcd")), 2))
        self.assertFalse(rule(signed_sum(list("abc")), 2))
        self.assertTrue(rule(signed_sum(list("abcde")), 2))
        self.assertFalse(rule(signed_sum(list("abcd")), 3))

    def test_refused(self):
        for value in NO_WORDS + ODD_VALUES:
            if value not in ((), []):
                self.refused(BadWord("letters"), signed_sum, value)
        for many in (7, 8, 100):
            self.refused(TooMany("letters", 6), signed_sum, ["a"] * many)
        self.refused(BadWord("letters"), signed_sum, ["a"] * 8 + ["*"])


class PureManyTest(Case):
    def test_against_own_ranks(self):
        for many in (1, 2, 3, 4, 5):
            for size in range(1, 9):
                # From as many wires as the size on all wirings are kept: the rows are the same.
                if size <= many + 1:
                    want = factorial(many) - own_rank(own_rows(many, size))
                self.assertEqual(pure_many(many, size), want)
                self.assertEqual(pure_many(size=size, many=many), want)
        self.assertEqual([pure_many(many, 1) for many in (1, 2, 3, 4, 5)], [0, 1, 5, 23, 119])
        self.assertEqual([pure_many(many, 2) for many in (1, 2, 3, 4, 5)], [0, 0, 0, 1, 29])

    def test_those_of_five_letters_at_size_two(self):
        """Signed sums of four, with products of two letters, are 24; with a fifth letter and commutators beside, 29."""
        words = words_of(5)
        told = []
        for order in words:
            four, last = list(order[:4]), order[4]
            whole = signed_sum(four)
            told += [whole.with_word(four[0], [four[0], last]), whole.with_word(four[0], [last, four[0]]),
                     whole * Formula.of([last]), Formula.of([last]) * whole]
        self.assertEqual(self.rank_of(told, words), 24)
        more = []
        for a, b, c, d, e in words:
            one, other = signed_sum([a, b]), signed_sum([c, d])
            middle = one * other + other * one
            more.append(middle * Formula.of([e]) - Formula.of([e]) * middle)
        self.assertEqual(self.rank_of(more, words), 14)
        self.assertEqual(self.rank_of(told + more, words), 29)
        self.assertTrue(all(rule(formula, 2) for formula in draw_some(told + more)))

    def rank_of(self, formulas, words):
        rows = {tuple(as_terms(formula).get(((), word), 0) for word in words) for formula in formulas}
        return own_rank(sorted(rows))

    def test_in_a_short_time(self):
        start = time.process_time()
        for size in range(1, 9):
            pure_many(5, size)
            pure_list(4, size)
        self.assertLess(time.process_time() - start, 2)


def draw_some(formulas):
    return random.Random(3).sample(formulas, 12)


class PureListTest(Case):
    def test_each_word_that_depends(self):
        draw = random.Random(4)
        for many in (1, 2, 3, 4):
            words = words_of(many)
            for size in range(1, 9):
                rows = own_rows(many, size) if size < 4 else None
                told = pure_list(many, size)
                self.assertEqual(pure_list(size=size, many=many), told)
                self.assertIs(type(told), tuple)
                self.assertEqual(len(told), pure_many(many, size))
                heads = []
                for formula in told:
                    self.assertIs(formula.is_table, True)
                    self.assertEqual({(traces, tuple(sorted(word))) for _, traces, word in formula.terms}, {((), tuple("abcd"[:many]))})
                    heads.append(formula.terms[-1][2])
                    self.assertGreater(formula.terms[-1][0], 0)
                    self.assertEqual(gcd(*[weight for weight, _, _ in formula.terms]), 1)
                    self.assertTrue(is_nothing_at(draw, formula, size, 3, 5))
                self.assertEqual(heads, sorted(set(heads)))
                for formula in told:
                    self.assertFalse({word for _, _, word in formula.terms[:-1]} & set(heads))
                if rows is not None:
                    depends = [word for at, word in enumerate(words) if own_rank(rows[:at + 1]) == own_rank(rows[:at])]
                    self.assertEqual(heads, depends)

    def test_told_in_words(self):
        self.assertEqual(pure_list(4, 2), (signed_sum(list("abcd")).times(own_sign((3, 2, 1, 0))),))
        self.assertEqual([str(one) for one in pure_list(2, 1)], ["table : -1 a b / 1 b a"])
        for many, size in product((1, 2, 3), range(2, 9)):
            self.assertEqual(pure_list(many, size), ())
        for size in range(3, 9):
            self.assertEqual(pure_list(4, size), ())
        self.assertEqual(pure_list(1, 1), ())
        first = tuple("abcd")
        self.assertEqual([as_terms(one) for one in pure_list(4, 1)], [{((), first): -1, ((), word): 1} for word in words_of(4)[1:]])


class ErrorsTest(Case):
    def test_numbers(self):
        for function, most in ((pure_many, 5), (pure_list, 4)):
            for many in [0, -1, True, False, None, "1", 1.0, [1], (), -GREAT, *ODD_VALUES]:
                self.refused(BadNumber("many"), function, many, 1)
                self.refused(BadNumber("many"), function, many, 0)
            for size in NO_SIZES + ODD_VALUES:
                self.refused(BadNumber("size"), function, 1, size)
                self.refused(BadNumber("size"), function, GREAT, size)
            for many in (most + 1, most + 2, GREAT):
                for size in (1, 8):
                    self.refused(TooMany("letters", most), function, many, size)

    def test_backwards(self):
        draw = random.Random(5)
        for _ in range(40):
            word = drawn_word(draw, 8)
            told = backwards(word)
            self.assertEqual(told, tuple(word[k] for k in range(len(word) - 1, -1, -1)))
            self.assertEqual(backwards(word=told), tuple(word))
        self.assertEqual((backwards([]), backwards(["a", "b'"])), ((), ("b'", "a")))
        for value in NO_WORDS + ODD_VALUES:
            if value not in ((), []):
                self.refused(BadWord("word"), backwards, value)

    def test_traces_backwards(self):
        """A word in two letters has at size 2 the trace of the word backwards; at size 3 not all have."""
        draw = random.Random(6)
        for _ in range(10):
            word = drawn_word(draw, 6, "ab", False, 1)
            formula = Formula(False, [(1, [word], None), (-1, [backwards(word)], None)])
            self.assertTrue(rule(formula, 2))
            self.assertEqual(value_of(formula, drawn_tables(draw, 2, "ab", GREAT), 2), 0)
            self.assertEqual(own_value([(1, [word], None)], False, {"a": [[1, 2], [3, 4]], "b": [[0, 1], [5, 7]]}, 2),
                             own_value([(1, [word[::-1]], None)], False, {"a": [[1, 2], [3, 4]], "b": [[0, 1], [5, 7]]}, 2))
