"""Sums of ties, against counts of the test's own."""

import random
from itertools import product

from fromsize.crossings import crossing
from fromsize.errors import BadNumber, BadSetting, BadSum, BadTies, BadTieSum, Misfit, TooMany
from fromsize.sums import Sum
from fromsize.tie_sums import TieSum
from fromsize.ties import ties_of
from tests.own import GREAT, NO_SIZES, ODD_VALUES, Case, drawn_sum, rows_of
from tests.own_ties import (NO_ENDS, NO_TIES, drawn_tie_sum, drawn_tie_terms, drawn_ties, matchings, numbers_taken, own_shut,
                            own_turned, poly_at, poly_product, ties_added, ties_dict, ties_product, ties_scaled, ties_sum, trim)

ENDS = (2, 4, 6, 8, 10)


def gathered(terms):
    return ties_added(*[{tuple(row): tuple(weight)} for weight, row in terms])


class MakingTest(Case):
    def test_terms(self):
        draw = random.Random(1)
        for ends in ENDS:
            for great in (2, GREAT, 10 ** 90):
                for _ in range(12):
                    terms = drawn_tie_terms(draw, ends, 9, great, 4)
                    terms += draw.sample(terms, len(terms) // 2) + [([], drawn_ties(draw, ends)), ((0, 0), drawn_ties(draw, ends))]
                    terms += [(weight + [0, 0], row) for weight, row in terms[:2] if type(weight) is list]
                    want = gathered(terms)
                    total = TieSum(ends, terms)
                    self.assertEqual(total.terms, tuple((want[row], row) for row in sorted(want)))
                    self.assertEqual((total.ends, len(total)), (ends, len(want)))
                    for weight, row in total.terms:
                        self.assertNotEqual(weight[-1], 0)
                        self.assertEqual((type(weight), type(row)), (tuple, tuple))
                    lists = tuple([tuple(weight), list(row)] for weight, row in draw.sample(terms, len(terms)))
                    self.assertEqual(TieSum(ends=ends, terms=lists), total)
                    self.assertEqual(TieSum(ends, list(lists)).terms, total.terms)

    def test_weights(self):
        pair = (1, 0)
        for weight, want in (([], ()), ([0], ()), ([0, 0, 0], ()), ([5, 0], (5,)), ([0, 5], (0, 5)), ([0, -GREAT, 0], (0, -GREAT))):
            self.assertEqual(TieSum(2, [(weight, pair)]).weight(pair), want)
        self.assertEqual(TieSum(2, [([1, 2], pair), ([3, -2, 0], pair)]).terms, (((4,), pair),))
        self.assertEqual(TieSum(2, [([1, 2], pair), ([-1, -2], pair)]).terms, ())
        self.assertEqual(TieSum(2, [([1], pair), ([0, 0, 3], pair)]).terms, (((1, 0, 3), pair),))

    def test_a_list_changed_later(self):
        weight, row = [3, 1], [1, 0]
        pair = [weight, row]
        terms = [pair]
        total = TieSum(2, terms)
        weight[0] = 9
        weight.append(4)
        row[0], row[1] = 0, 1
        pair[0] = [7]
        terms.append([[1], [1, 0]])
        self.assertEqual(total.terms, (((3, 1), (1, 0)),))
        self.assertEqual(terms, [[[7], [0, 1]], [[1], [1, 0]]])
        factor = [2, 5]
        more = total.times(factor)
        factor[0] = 0
        self.assertEqual(more.terms, (((6, 17, 5), (1, 0)),))

    def test_equal(self):
        total = TieSum(4, [((1,), (1, 0, 3, 2)), ((0, 2), (2, 3, 0, 1))])
        self.assertTrue(total == TieSum(4, [([0, 2, 0], [2, 3, 0, 1]), ([1], [1, 0, 3, 2])]))
        self.assertFalse(total != TieSum(4, [([0, 2, 0], [2, 3, 0, 1]), ([1], [1, 0, 3, 2])]))
        unlike = [TieSum.of((1, 0, 3, 2)), TieSum(4, []), TieSum.of((1, 0)), total.times([2]), total.at(1),
                  TieSum(4, [((1,), (1, 0, 3, 2)), ((0, 2), (3, 2, 1, 0))]), Sum(4, []), Sum.of((1, 0))]
        for other in unlike + ODD_VALUES + [str(total), total.terms, (4, total.terms)]:
            self.assertIs(total == other, False)
            self.assertIs(total != other, True)
        self.assertFalse(TieSum(2, []) == TieSum(4, []))
        self.assertFalse(TieSum(2, []) == Sum(1, []))
        self.assertTrue(TieSum(2, []) == TieSum(2, [([0], (1, 0))]))

    def test_of(self):
        for ends in (2, 4, 6):
            for row in matchings(ends):
                self.assertEqual(TieSum.of(row).terms, (((1,), row),))
                self.assertEqual(TieSum.of(ties=list(row)), TieSum(ends, [([1], row)]))
        for value in NO_TIES + ODD_VALUES:
            self.refused(BadTies("ties"), TieSum.of, value)

    def test_refused(self):
        for ends in NO_ENDS + ODD_VALUES:
            self.refused(BadNumber("ends"), TieSum, ends, [])
            self.refused(BadNumber("ends"), TieSum, ends, None)
        pair = (1, 0)
        bad = [None, 1, "", {}, {1: pair}, [1], [None], [([1],)], [()], [([1], pair, 2)], [(1, pair)], [(None, pair)], [("1", pair)],
               [([1], (0, 1))], [([1], (1, 0, 3, 2))], [(pair, [1])], [([True], pair)], [([1, None], pair)], [([1.0], pair)],
               [(["1"], pair)], [([[1]], pair)], [([1], "10")], [([1], None)], [([1], pair), ([1], (0, 0))], [([0], (0, 1))],
               [([1], (True, 0))], ([1], pair), [[[[1]], pair]], ["ab"], [{1: 2, 3: 4}], iter([([1], pair)]), TieSum.of(pair),
               [({1: 1}, pair)], [(range(2), pair)], [((), (0,))]]
        for terms in bad:
            self.refused(BadTieSum("terms"), TieSum, 2, terms)
        self.refused(BadTieSum("terms"), TieSum, terms=[([1], [1, 0])], ends=4)


class WiredTest(Case):
    def test_wired(self):
        draw = random.Random(2)
        for wires in range(1, 6):
            for _ in range(10):
                total = drawn_sum(draw, wires)
                wired = TieSum.wired(total)
                self.assertEqual(wired.ends, 2 * wires)
                self.assertEqual(ties_dict(wired), {ties_of(row): (weight,) for weight, row in total.terms})
                self.assertEqual(TieSum.wired(total=total.back()), wired.back())
                other = drawn_sum(draw, wires)
                self.assertEqual(wired * TieSum.wired(other), TieSum.wired(total * other))
                self.assertEqual(wired - TieSum.wired(other), TieSum.wired(total - other))
                if wires > 1:
                    plain, looped = total.closed()
                    self.assertEqual(wired.closed(), TieSum.wired(plain) + TieSum.wired(looped).times([0, 1]))

    def test_what_is_taken_is_led(self):
        draw = random.Random(3)
        for wires in (1, 2, 3):
            total = drawn_sum(draw, wires)
            wired = TieSum.wired(total)
            for tops in product(range(3), repeat=wires):
                for bottoms in product(range(3), repeat=wires):
                    self.assertEqual(wired.taken(tops + bottoms[::-1]), trim([total.led(tops, bottoms)]))

    def test_refused(self):
        for value in [TieSum.of((1, 0)), ((1, 0),), "1 : 1 0", (1, 0), *ODD_VALUES]:
            self.refused(BadSum("total"), TieSum.wired, value)
        self.refused(TooMany("ends", 10), TieSum.wired, Sum(6, []))
        self.refused(TooMany("ends", 10), TieSum.wired, Sum.of((0, 1, 2, 3, 4, 5)))


class AddingTest(Case):
    def test_two_sums(self):
        draw = random.Random(4)
        for ends in ENDS:
            for number in range(12):
                one, other = [drawn_tie_sum(draw, ends, 6, (3, GREAT)[number % 2], 4) for _ in range(2)]
                before = (one.terms, other.terms)
                self.assertEqual(one + other, ties_sum(ends, ties_added(ties_dict(one), ties_dict(other))))
                less = ties_scaled(ties_dict(other), (-1,))
                self.assertEqual(one - other, ties_sum(ends, ties_added(ties_dict(one), less)))
                self.assertEqual(one * other, ties_sum(ends, ties_product(ties_dict(one), ties_dict(other))))
                self.assertEqual((one - one).terms, ())
                self.assertEqual((one.terms, other.terms), before)

    def test_single_ties(self):
        """Loops count as (0, 1), each one."""
        for ends in (2, 4, 6):
            for one in matchings(ends):
                for other in matchings(ends):
                    want = ties_product({one: (1,)}, {other: (1,)})
                    self.assertEqual(ties_dict(TieSum.of(one) * TieSum.of(other)), want)
        shifted = TieSum.of((1, 0, 3, 2, 5, 4, 7, 6))
        self.assertEqual((shifted * shifted).terms, (((0, 0, 1), (1, 0, 3, 2, 5, 4, 7, 6)),))

    def test_one_sum(self):
        draw = random.Random(5)
        for ends in ENDS:
            for _ in range(12):
                total = drawn_tie_sum(draw, ends)
                told = ties_dict(total)
                for weight in ([], [0], [1], [-1], [0, 1], [GREAT, 0, -3, 0], (2, 5), [0, 0]):
                    self.assertEqual(total.times(weight), ties_sum(ends, ties_scaled(told, trim(weight))))
                self.assertEqual(total.times(weight=[3]), total + total + total)
                turned = {own_turned(row): weight for row, weight in told.items()}
                self.assertEqual(total.back(), ties_sum(ends, turned))
                self.assertEqual(total.back().back(), total)
                for size in (1, 2, 3, 7, GREAT):
                    want = {row: trim([poly_at(weight, size)]) for row, weight in told.items()}
                    self.assertEqual(total.at(size), ties_sum(ends, want))
                    self.assertEqual(total.at(size=size).at(5), total.at(size))
                for row in matchings(ends)[:20] + list(told):
                    self.assertEqual(total.weight(row), told.get(row, ()))
                    self.assertEqual(total.weight(ties=list(row)), told.get(row, ()))

    def test_at_a_size_where_it_is_0(self):
        total = TieSum(2, [([-6, 1, 1], (1, 0))])
        self.assertEqual([total.at(size).terms for size in (1, 2, 3)], [(((-4,), (1, 0)),), (), (((6,), (1, 0)),)])

    def test_closed(self):
        draw = random.Random(6)
        for ends in (4, 6, 8, 10):
            for row in matchings(ends)[:60]:
                new, loops = own_shut(row)
                self.assertEqual(TieSum.of(row).closed(), TieSum(ends - 2, [((0,) * loops + (1,), new)]))
            for _ in range(12):
                total = drawn_tie_sum(draw, ends)
                parts = []
                for weight, row in total.terms:
                    new, loops = own_shut(row)
                    parts.append((poly_product(weight, (0,) * loops + (1,)), new))
                self.assertEqual(total.closed(), ties_sum(ends - 2, gathered(parts)))
        self.refused(Misfit("ends"), TieSum.of((1, 0)).closed)
        self.refused(Misfit("ends"), TieSum(2, []).closed)

    def test_taken(self):
        draw = random.Random(7)
        for ends in (2, 4, 6):
            for _ in range(4):
                total = drawn_tie_sum(draw, ends)
                for setting in product(range(2 if ends == 6 else 3), repeat=ends):
                    taken = [weight for weight, row in total.terms if all(setting[k] == setting[row[k]] for k in range(ends))]
                    want = gathered([(weight, (1, 0)) for weight in taken]).get((1, 0), ())
                    self.assertEqual(total.taken(setting), want)
                    self.assertEqual(total.taken(setting=list(setting)), want)
        total = TieSum(4, [([1, 2], (1, 0, 3, 2)), ([-1, -2], (3, 2, 1, 0)), ([5], (2, 3, 0, 1))])
        self.assertEqual(total.taken((GREAT,) * 4), (5,))
        self.assertEqual(total.taken((GREAT, GREAT, 0, 0)), (1, 2))
        self.assertEqual(total.taken((0, 1, 2, 3)), ())

    def test_nothing_changes(self):
        setting = [0, 0]
        total = TieSum.of((1, 0))
        total.taken(setting)
        self.assertEqual((setting, total.terms), ([0, 0], (((1,), (1, 0)),)))


class RefusedTest(Case):
    def test_ends(self):
        two = TieSum.of((1, 0, 3, 2))
        for other in (TieSum.of((1, 0)), TieSum(6, []), TieSum(10, [])):
            for function in (TieSum.__add__, TieSum.__sub__, TieSum.__mul__):
                self.refused(Misfit("ends"), function, two, other)
                self.refused(Misfit("ends"), function, other, two)

    def test_methods(self):
        two = TieSum.of((1, 0, 3, 2))
        for value in [1, [True], [1, None], ["1"], [1.0], [[1]], "1", {0: 1}, *ODD_VALUES]:
            self.refused(BadNumber("weight"), two.times, value)
            self.refused(BadNumber("weight"), TieSum(4, []).times, value)
        for size in NO_SIZES + ODD_VALUES:
            self.refused(BadNumber("size"), two.at, size)
            self.refused(BadNumber("size"), TieSum(4, []).at, size)
        for value in NO_TIES + ODD_VALUES:
            self.refused(BadTies("ties"), two.weight, value)
        for row in ((1, 0), (1, 0, 3, 2, 5, 4)):
            self.refused(Misfit("ends"), two.weight, row)
        for value in [[0, 0], [0] * 5, [0, 0, -1, -1], (0, 0, True, True), "0000", [0, 0, 0, "0"], [0, 0, 0, None], [0.0] * 4,
                      [], None, *ODD_VALUES]:
            self.refused(BadSetting("setting"), two.taken, value)

    def test_too_many_products(self):
        rows = matchings(10)
        sums = {many: TieSum(10, [([1, 0, number], row) for number, row in enumerate(rows[:many], 1)])
                for many in (100, 113, 177, 200, 945, 21, 22)}
        both = sums[100] * sums[200]
        self.assertEqual(sum(poly_at(weight, 1) for weight, _ in both.terms), sum(range(2, 102)) * sum(range(2, 202)))
        self.assertGreater(len(sums[21] * sums[945]), 0)
        for one, other in ((177, 113), (113, 177), (22, 945), (945, 945)):
            self.refused(TooMany("products", 20000), TieSum.__mul__, sums[one], sums[other])
        self.refused(Misfit("ends"), TieSum.__mul__, sums[945], TieSum(8, []))
        self.assertEqual(sums[945] * TieSum(10, []), TieSum(10, []))


class FactsTest(Case):
    def test_behind_one_another(self):
        """At a size: the numbers of the one for tops and m, times those of the other for m and bottoms, added up over m."""
        draw = random.Random(8)
        for half, size, many in ((1, 1, 3), (1, 3, 3), (2, 1, 3), (2, 2, 3), (2, 3, 3), (3, 2, 2)):
            for _ in range(many):
                one, other = drawn_tie_sum(draw, 2 * half), drawn_tie_sum(draw, 2 * half)
                both = one * other
                middles = list(product(range(size), repeat=half))
                for tops in middles:
                    for ends in middles:
                        want = sum(numbers_taken(one, tops + middle[::-1], size) * numbers_taken(other, middle + ends, size)
                                   for middle in middles)
                        self.assertEqual(poly_at(both.taken(tops + ends), size), want)

    def test_closed_adds_up(self):
        draw = random.Random(9)
        for half, size in ((2, 1), (2, 2), (2, 3), (3, 2), (3, 3), (4, 2)):
            for _ in range(3):
                total = drawn_tie_sum(draw, 2 * half)
                closed = total.closed()
                for setting in product(range(size), repeat=2 * half - 2):
                    tops, bottoms = setting[:half - 1], setting[half - 1:]
                    want = sum(numbers_taken(total, tops + (x, x) + bottoms, size) for x in range(size))
                    self.assertEqual(poly_at(closed.taken(setting), size), want)

    def test_three_in_a_row(self):
        draw = random.Random(10)
        for ends in ENDS:
            one, two, three = [drawn_tie_sum(draw, ends, 4) for _ in range(3)]
            self.assertEqual((one * two) * three, one * (two * three))
            self.assertEqual((one * two).back(), two.back() * one.back())
            self.assertEqual(one * (two - three), one * two - one * three)
            nest = TieSum.of(tuple(range(ends))[::-1])
            self.assertEqual((nest * one, one * nest), (one, one))

    def test_the_ladder(self):
        """The crossing of all wires, closed, is size - (n - 1) times that of a wire less."""
        for wires in range(2, 6):
            row = tuple(range(wires))
            total, less = crossing(row, row), crossing(row[:-1], row[:-1])
            plain, looped = total.closed()
            self.assertEqual((plain, looped), (less.times(1 - wires), less))
            ties = TieSum.wired(total)
            for rest in range(wires - 1, 0, -1):
                ties = ties.closed()
                shorter = crossing(row[:rest], row[:rest])
                weight = (1,)
                for gone in range(rest, wires):
                    weight = poly_product(weight, (-gone, 1))
                self.assertEqual(ties, TieSum.wired(shorter).times(weight))
                for size in range(1, wires + 2):
                    self.assertEqual(ties.at(size), TieSum.wired(shorter).times([poly_at(weight, size)]))
        for wires in range(2, 7):
            row = tuple(range(wires))
            told = {size: crossing(row, row) for size in range(1, wires + 2)}
            for size in told:
                number = 1
                for rest in range(wires - 1, 0, -1):
                    plain, looped = told[size].closed()
                    told[size] = plain + looped.times(size)
                    number *= size - rest
                    self.assertEqual(told[size], crossing(row[:rest], row[:rest]).times(number))

    def test_all_wirings_of_five_wires(self):
        total = Sum(5, [(number + 1, row) for number, row in enumerate(rows_of(5))])
        self.assertEqual(len(TieSum.wired(total)), 120)
