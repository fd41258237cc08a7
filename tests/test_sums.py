"""Sums, against counts wire by wire."""

import random

from fromsize.crossings import crossing, plain
from fromsize.errors import BadNumber, BadSetting, BadSum, BadWiring, Misfit, TooMany
from fromsize.sums import Sum
from tests.own import (GREAT, NO_WIRINGS, ODD_VALUES, Case, added, all_settings, as_dict, as_sum, drawn_row, drawn_sum,
                       drawn_terms, numbers_of, own_product, patterns, rows_of, scaled)


def gathered(terms):
    return added(*[{tuple(row): weight} for weight, row in terms])


def own_closed(total):
    """Each wire followed on through the closed one; the wirings without a loop, and those with one."""
    plain_terms, looped = [], []
    last = total.wires - 1
    for weight, row in total.terms:
        new = []
        for top in range(last):
            bottom = row[top]
            while bottom == last:
                bottom = row[last]
            new.append(bottom)
        (looped if row[last] == last else plain_terms).append((weight, tuple(new)))
    return gathered(plain_terms), gathered(looped)


class MakingTest(Case):
    def test_terms(self):
        draw = random.Random(1)
        for wires in range(1, 7):
            for great in (2, GREAT, 10 ** 90):
                for _ in range(12):
                    terms = drawn_terms(draw, wires, 12, great)
                    terms = terms + draw.sample(terms, len(terms) // 2) + [(0, drawn_row(draw, wires))]
                    want = gathered(terms)
                    total = Sum(wires, terms)
                    self.assertEqual(total.terms, tuple((want[row], row) for row in sorted(want)))
                    self.assertEqual((total.wires, len(total)), (wires, len(want)))
                    lists = tuple([weight, list(row)] for weight, row in draw.sample(terms, len(terms)))
                    self.assertEqual(Sum(wires=wires, terms=lists), total)
                    self.assertEqual(Sum(wires, list(lists)).terms, total.terms)

    def test_a_list_changed_later(self):
        row = [1, 0]
        pair = [3, row]
        terms = [pair]
        total = Sum(2, terms)
        row[0], row[1] = 0, 1
        pair[0] = 7
        terms.append([1, [0, 1]])
        self.assertEqual(total.terms, ((3, (1, 0)),))
        self.assertEqual(terms, [[7, [0, 1]], [1, [0, 1]]])
        for told in (total.terms, total.terms[0], total.terms[0][1]):
            self.assertIs(type(told), tuple)

    def test_equal(self):
        total = Sum(2, [(1, (0, 1)), (2, (1, 0))])
        self.assertTrue(total == Sum(2, [(2, [1, 0]), (1, [0, 1])]))
        self.assertFalse(total != Sum(2, [(2, [1, 0]), (1, [0, 1])]))
        unlike = [Sum(2, [(1, (0, 1))]), Sum(2, [(1, (0, 1)), (3, (1, 0))]), Sum(2, []), Sum(3, [(1, (0, 1, 2))])]
        for other in unlike + ODD_VALUES + [str(total), total.terms, (2, total.terms)]:
            self.assertIs(total == other, False)
            self.assertIs(total != other, True)
        self.assertFalse(Sum(2, []) == Sum(3, []))
        self.assertTrue(Sum(2, []) == Sum(2, [(0, (1, 0))]))

    def test_of(self):
        for wires in range(1, 5):
            for row in rows_of(wires):
                self.assertEqual(Sum.of(row), Sum(wires, [(1, row)]))
                self.assertEqual(Sum.of(row=list(row)).terms, ((1, row),))
        for value in NO_WIRINGS + ODD_VALUES:
            self.refused(BadWiring("row"), Sum.of, value)

    def test_refused(self):
        for wires in [0, 7, -1, GREAT, True, "1", None, [1], 1.0]:
            self.refused(BadNumber("wires"), Sum, wires, [])
            self.refused(BadNumber("wires"), Sum, wires, None)
        bad = [None, 1, "", {}, {1: (0, 1)}, {(1, (0, 1))}, [1], [None], [(1,)], [()], [(1, (0, 1), 2)],
               [(1, (0,))], [(1, (0, 1, 2))], [((0, 1), 1)], [(True, (0, 1))], [(None, (0, 1))], [("1", (0, 1))],
               [(1, "01")], [(1, None)], [(1.0, (0, 1))], [(1, (0, 1)), (1, (0, 0))], [(0, (0, 2))], [(1, (0, True))],
               (1, (0, 1)), [[[1], (0, 1)]], ["ab"], [{1: 2, 3: 4}], iter([(1, (0, 1))]), Sum.of((0, 1))]
        for terms in bad:
            self.refused(BadSum("terms"), Sum, 2, terms)
        self.refused(BadSum("terms"), Sum, terms=[(1, [1, 0])], wires=1)


class AddingTest(Case):
    def test_two_sums(self):
        draw = random.Random(2)
        for wires in range(1, 7):
            for number in range(12):
                one, other = [drawn_sum(draw, wires, 10, (3, GREAT)[number % 2]) for _ in range(2)]
                before = (one.terms, other.terms)
                self.assertEqual(one + other, as_sum(wires, added(as_dict(one), as_dict(other))))
                self.assertEqual(one - other, as_sum(wires, added(as_dict(one), scaled(as_dict(other), -1))))
                self.assertEqual(one * other, as_sum(wires, own_product(as_dict(one), as_dict(other))))
                self.assertEqual((one - one).terms, ())
                self.assertEqual((one.terms, other.terms), before)

    def test_one_sum(self):
        draw = random.Random(3)
        for wires in range(1, 7):
            for _ in range(12):
                total = drawn_sum(draw, wires)
                for number in (0, 1, -1, 5, -GREAT):
                    self.assertEqual(total.times(number), as_sum(wires, scaled(as_dict(total), number)))
                turned = {}
                for weight, row in total.terms:
                    new = [None] * wires
                    for top, bottom in enumerate(row):
                        new[bottom] = top
                    turned[tuple(new)] = weight
                self.assertEqual(total.back(), as_sum(wires, turned))
                if wires > 1:
                    pair = total.closed()
                    self.assertIs(type(pair), tuple)
                    self.assertEqual(pair, tuple(as_sum(wires - 1, told) for told in own_closed(total)))

    def test_beside(self):
        draw = random.Random(4)
        for wires in range(1, 6):
            for more in range(1, 7 - wires):
                one, other = drawn_sum(draw, wires), drawn_sum(draw, more)
                told = {}
                for weight, row in one.terms:
                    for number, then in other.terms:
                        told[row + tuple(wires + bottom for bottom in then)] = weight * number
                self.assertEqual(one.beside(other), as_sum(wires + more, told))
                self.assertEqual(one.beside(other=other).wires, wires + more)

    def test_weight_and_led(self):
        draw = random.Random(5)
        for wires in range(1, 5):
            for _ in range(6):
                total = drawn_sum(draw, wires)
                for row in rows_of(wires):
                    self.assertEqual(total.weight(list(row)), as_dict(total).get(row, 0))
                for tops in all_settings(wires, 3):
                    told = numbers_of(total.terms, tops)
                    for bottoms in draw.sample(all_settings(wires, 3), 3) + list(told):
                        self.assertEqual(total.led(tops, list(bottoms)), told.get(bottoms, 0))
        total = Sum(2, [(GREAT, (1, 0))])
        self.assertEqual(total.led(bottoms=(7, GREAT), tops=[GREAT, 7]), GREAT)
        self.assertEqual((total.weight(row=(1, 0)), total.times(number=2).weight((1, 0))), (GREAT, 2 * GREAT))

    def test_all_wirings_of_six_wires(self):
        terms = [(number + 1, row) for number, row in enumerate(rows_of(6))]
        total = Sum(6, terms[::-1] + [(GREAT, row) for _, row in terms])
        self.assertEqual(total.terms, tuple((weight + GREAT, row) for weight, row in terms))
        self.assertEqual(Sum.read(str(total)), total)
        self.assertEqual(total.back().back(), total)
        self.assertEqual(len(total - total.times(2)), 720)
        self.assertEqual(total.led((0,) * 6, (0,) * 6), sum(weight for weight, _ in total.terms))
        self.assertEqual(total * Sum.of((0, 1, 2, 3, 4, 5)), total)
        self.assertEqual([len(part) for part in total.closed()], [120, 120])

    def test_refused(self):
        one, six = Sum.of((0,)), Sum.of((0, 1, 2, 3, 4, 5))
        two = Sum.of((1, 0))
        for other in (one, six, Sum(3, [])):
            for function in (Sum.__add__, Sum.__sub__, Sum.__mul__):
                self.refused(Misfit("wires"), function, two, other)
                self.refused(Misfit("wires"), function, other, two)
        for value in [True, "1", None, 1.0, [1], *ODD_VALUES]:
            self.refused(BadNumber("number"), two.times, value)
        for value in [((1, 0),), "2 :", (1, 0), *ODD_VALUES]:
            self.refused(BadSum("other"), two.beside, value)
            self.refused(BadSum("other"), six.beside, value)
        self.refused(TooMany("wires", 6), six.beside, one)
        self.refused(TooMany("wires", 6), Sum(3, []).beside, Sum(4, []))
        for value in NO_WIRINGS + ODD_VALUES:
            self.refused(BadWiring("row"), two.weight, value)
        self.refused(Misfit("wires"), two.weight, (0,))
        self.refused(Misfit("wires"), two.weight, [0, 1, 2])
        self.refused(Misfit("wires"), one.closed)
        self.refused(Misfit("wires"), Sum(1, []).closed)

    def test_refused_settings(self):
        two = Sum.of((1, 0))
        for value in [[0], [0, 1, 2], [0, -1], (True, 0), "01", None, [0, "1"], *ODD_VALUES]:
            self.refused(BadSetting("tops"), two.led, value, [0, 1])
            self.refused(BadSetting("bottoms"), two.led, [0, 1], value)
            self.refused(BadSetting("tops"), two.led, value, value)

    def test_too_many_products(self):
        rows = rows_of(6)
        sums = {many: Sum(6, [(1, row) for row in rows[:many]]) for many in (100, 113, 177, 200, 28, 720, 27)}
        self.assertEqual(sum(weight for weight, _ in (sums[100] * sums[200]).terms), 20000)
        self.assertEqual(sum(weight for weight, _ in (sums[27] * sums[720]).terms), 19440)
        for one, other in ((177, 113), (113, 177), (28, 720), (720, 720)):
            self.refused(TooMany("products", 20000), Sum.__mul__, sums[one], sums[other])
        self.refused(Misfit("wires"), Sum.__mul__, sums[720], Sum(5, []))
        everything = tuple(range(6))
        self.assertEqual(plain(everything, everything) * Sum(6, []), Sum(6, []))
        self.refused(TooMany("products", 20000), Sum.__mul__, crossing(everything, everything), sums[28])


class FactsTest(Case):
    def test_what_is_led(self):
        draw = random.Random(6)
        for wires in range(1, 5):
            for _ in range(4):
                one, other = drawn_sum(draw, wires), drawn_sum(draw, wires)
                both, turned = one * other, one.back()
                for tops in patterns(wires, 3):
                    want = {}
                    for middle, number in numbers_of(one.terms, tops).items():
                        for bottoms, more in numbers_of(other.terms, middle).items():
                            want[bottoms] = want.get(bottoms, 0) + number * more
                    for bottoms in all_settings(wires, 3):
                        self.assertEqual(both.led(tops, bottoms), want.get(bottoms, 0))
                        self.assertEqual(turned.led(bottoms, tops), one.led(tops, bottoms))

    def test_beside_multiplies(self):
        draw = random.Random(7)
        for wires, more in ((1, 1), (1, 2), (2, 2), (3, 1)):
            one, other = drawn_sum(draw, wires), drawn_sum(draw, more)
            both = one.beside(other)
            for tops in patterns(wires + more, 2):
                for bottoms in all_settings(wires + more, 2):
                    want = one.led(tops[:wires], bottoms[:wires]) * other.led(tops[wires:], bottoms[wires:])
                    self.assertEqual(both.led(tops, bottoms), want)

    def test_closed_adds_up(self):
        draw = random.Random(8)
        for wires in (2, 3, 4):
            total = drawn_sum(draw, wires)
            plain_part, looped = total.closed()
            for size in (1, 2, 3):
                for tops in all_settings(wires - 1, size):
                    for bottoms in all_settings(wires - 1, size):
                        want = sum(total.led(tops + (x,), bottoms + (x,)) for x in range(size))
                        self.assertEqual(plain_part.led(tops, bottoms) + size * looped.led(tops, bottoms), want)
