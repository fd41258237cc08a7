"""Class sums against own rounds, and what commutes against own differences."""

import random

from fromsize.classes import Clash, Commutes, class_sum, classes_many, commutes
from fromsize.crossings import crossing
from fromsize.errors import BadNumber, BadSum, Misfit
from fromsize.ranks import rank
from fromsize.sums import Sum
from tests.own import (GREAT, NO_SIZES, ODD_VALUES, Case, added, as_dict, drawn_row, drawn_sum, is_nothing, numbers_of,
                       own_product, own_rounds, own_stood, patterns, rows_of, scaled, sizes_of)

NO_WIRES = [0, 7, -1, GREAT, True, False, None, "3", [3], (1, 2), 3.0]


def own_lengths(wires):
    """All lengths of so many wires, each descending: of all cuts of a row of wires."""
    found = set()
    for cuts in range(2 ** (wires - 1)):
        lengths = [1]
        for at in range(wires - 1):
            if cuts >> at & 1:
                lengths.append(1)
            else:
                lengths[-1] += 1
        found.add(tuple(sorted(lengths, reverse=True)))
    return sorted(found)


def own_difference(total, top):
    swap = list(range(total.wires))
    swap[top], swap[top + 1] = top + 1, top
    other = {tuple(swap): 1}
    return added(own_product(as_dict(total), other), scaled(own_product(other, as_dict(total)), -1))


def as_terms(told):
    return [(weight, row) for row, weight in told.items()]


def own_spread(total):
    """First a wiring turned about, then the sum, then the wiring, added up for all wirings."""
    found = {}
    for between in rows_of(total.wires):
        turned = tuple(between.index(bottom) for bottom in range(total.wires))
        found = added(found, own_product(own_product({turned: 1}, as_dict(total)), {between: 1}))
    return found


class ClassSumsTest(Case):
    def test_against_own_rounds(self):
        draw = random.Random(1)
        for wires in range(1, 7):
            rows = {row: sorted(len(walk) for walk in own_rounds(row)) for row in rows_of(wires)}
            met = 0
            for lengths in own_lengths(wires):
                want = tuple((1, row) for row in rows if rows[row] == sorted(lengths))
                met += len(want)
                self.assertEqual(class_sum(wires, lengths).terms, want)
                self.assertEqual(class_sum(wires, draw.sample(lengths, len(lengths))).wires, wires)
                self.assertEqual(class_sum(lengths=list(lengths[::-1]), wires=wires), class_sum(wires, lengths))
            self.assertEqual(met, len(rows))

    def test_refused(self):
        for wires in NO_WIRES + ODD_VALUES:
            self.refused(BadNumber("wires"), class_sum, wires, [3])
            self.refused(BadNumber("wires"), class_sum, wires, None)
            self.refused(BadNumber("wires"), classes_many, wires, 0)
        bad = [[0, 3], [3, 0], [-1, 4], [True, 2], [2, None], ["3"], [3.0], [[3]], 3, "3", None, {3: 0}, {3}]
        for lengths in bad + ODD_VALUES:
            self.refused(BadNumber("lengths"), class_sum, 3, lengths)
        for lengths in [[], (), [2], [4], [2, 2], [1, 1, 1, 1], [GREAT], [1] * 1000, [3, 3]]:
            self.refused(Misfit("lengths"), class_sum, 3, lengths)
        for size in NO_SIZES + ODD_VALUES:
            self.refused(BadNumber("size"), classes_many, 4, size)

    def test_how_many(self):
        for wires in range(1, 7):
            for size in sizes_of(wires):
                want = len([lengths for lengths in own_lengths(wires) if len(lengths) <= size])
                self.assertEqual(classes_many(wires, size), want)
        self.assertEqual(classes_many(size=2, wires=5), 3)

    def test_how_many_are_independent(self):
        for wires in range(1, 6):
            for size in range(1, wires + 1):
                rows = []
                for lengths in own_lengths(wires):
                    total = class_sum(wires, lengths)
                    rows.append([total.led(tops, tops) for tops in patterns(wires, size)])
                self.assertEqual(rank(rows), classes_many(wires, size))


class CommutesTest(Case):
    def judged(self, total, size):
        """The paper, with all that it tells shown."""
        paper = commutes(total, size)
        self.assertEqual(commutes(total, size), paper)
        if paper:
            self.assertIs(type(paper), Commutes)
            self.assertEqual((paper.word, paper.parts), ("commutes", (paper.steps,)))
            self.assertEqual(len(paper.steps), total.wires - 1)
            for top, steps in enumerate(paper.steps):
                self.assertLessEqual(len(steps), 720)
                for weight, row, tops in steps:
                    self.assertTrue(weight != 0 and len(row) == total.wires and len(tops) == size + 1)
                    self.assertEqual(list(tops), sorted(set(tops)))
                self.assertEqual(own_stood(steps), own_difference(total, top))
        else:
            self.assertIs(type(paper), Clash)
            self.assertEqual((paper.word, paper.parts), ("clash", (paper.top, paper.tops, paper.bottoms)))
            self.assertTrue(all(0 <= k < size for k in paper.tops + paper.bottoms))
            told = numbers_of(as_terms(own_difference(total, paper.top)), paper.tops)
            self.assertNotEqual(told.get(paper.bottoms, 0), 0)
            for top in range(paper.top):
                self.assertTrue(is_nothing(as_terms(own_difference(total, top)), total.wires, min(size, total.wires)))
        return paper

    def test_class_sums(self):
        for wires in range(1, 7):
            for lengths in own_lengths(wires):
                for size in sizes_of(wires):
                    self.assertEqual(self.judged(class_sum(wires, lengths).times(-3), size), Commutes([()] * (wires - 1)))

    def test_single_wirings(self):
        for wires in range(1, 5):
            for row in rows_of(wires):
                for size in sizes_of(wires):
                    total = Sum.of(row)
                    want = all(is_nothing(as_terms(own_difference(total, top)), wires, min(size, wires))
                               for top in range(wires - 1))
                    self.assertIs(bool(self.judged(total, size)), want)

    def test_drawn_sums(self):
        draw = random.Random(2)
        for wires, many in ((1, 2), (2, 3), (3, 6), (4, 6), (5, 3), (6, 1)):
            for _ in range(many):
                total = drawn_sum(draw, wires, 6)
                some = class_sum(wires, draw.choice(own_lengths(wires)))
                for told in (total, total + some, some + crossing(drawn_row(draw, wires), range_of(wires))):
                    for size in sizes_of(wires):
                        paper = self.judged(told, size)
                        if size == 1 or wires <= 2:
                            self.assertTrue(paper)

    def test_what_is_nothing_commutes(self):
        draw = random.Random(3)
        for wires in range(3, 7):
            total = crossing(drawn_row(draw, wires), range_of(wires)[:3]) + class_sum(wires, [2] + [1] * (wires - 2))
            for size in (1, 2):
                self.assertTrue(self.judged(total, size))
        self.assertFalse(self.judged(crossing((0, 1, 2, 3), (0, 1, 2)), 3))
        self.assertEqual(self.judged(crossing((0, 1, 2, 3), (0, 1, 2)), 3).top, 2)

    def test_spreads(self):
        draw = random.Random(4)
        for wires, many in ((1, 1), (2, 1), (3, 2), (4, 6)):
            for _ in range(4):
                total = drawn_sum(draw, wires, 4) + crossing(drawn_row(draw, wires), range_of(wires))
                spread = own_spread(total)
                factor = len(rows_of(wires))
                for size in range(1, wires + 1):
                    rest = added(scaled(as_dict(total), factor), scaled(spread, -1))
                    self.assertIs(bool(commutes(total, size)), is_nothing(as_terms(rest), wires, size))
                    self.assertTrue(commutes(Sum(wires, as_terms(spread)), size))

    def test_edges(self):
        self.assertEqual(commutes(total=Sum(1, []), size=4), Commutes(()))
        self.assertEqual(commutes(Sum(4, []), GREAT).steps, ((), (), ()))
        paper = commutes(Sum.of((1, 0, 2)), 2)
        self.assertEqual((paper.top, bool(paper)), (1, False))

    def test_refused(self):
        for value in [((1, 0),), (1, 0), "2 :", Sum, *ODD_VALUES]:
            self.refused(BadSum("total"), commutes, value, 2)
            self.refused(BadSum("total"), commutes, value, 0)
        for size in NO_SIZES + ODD_VALUES:
            self.refused(BadNumber("size"), commutes, Sum.of((1, 0)), size)


def range_of(wires):
    return tuple(range(wires))
