"""Writings, against what their steps stand for and what they lead."""

import random
import time

from fromsize.crossings import crossing
from fromsize.errors import BadNumber, BadSum
from fromsize.sums import Sum
from fromsize.written import Nothing, Something, Written, judged, least_size, written, written_by
from tests.own import (GREAT, NO_SIZES, ODD_VALUES, Case, added, as_dict, drawn_row, drawn_sum, drawn_tops, is_nothing,
                       numbers_of, own_longest, own_stood, patterns, rows_of, scaled, sizes_of)


def some_sums(seed=1):
    """Drawn sums, crossings among them, of one to five wires and some of six."""
    draw = random.Random(seed)
    found = []
    for wires, many in ((1, 3), (2, 5), (3, 8), (4, 8), (5, 6), (6, 3)):
        for number in range(many):
            total = drawn_sum(draw, wires, 7, (3, GREAT)[number % 2])
            for _ in range(number % 3):
                tops = drawn_tops(draw, wires, draw.randint(1, wires))
                total = total.times(number % 2) + crossing(drawn_row(draw, wires), tops)
            found.append(total)
        found.append(Sum(wires, []))
    return found


def difference(one, other):
    return added(as_dict(one), scaled(as_dict(other), -1))


class WrittenTest(Case):
    def test_all_sums(self):
        for total in some_sums():
            for size in sizes_of(total.wires):
                paper = written_by(total, size)
                self.assertIs(type(paper), Written)
                self.assertEqual((paper.word, paper.parts), ("written", (paper.writing, paper.steps)))
                self.assertIs(type(paper.writing), Sum)
                self.assertEqual(written(total, size), paper.writing)
                self.assertEqual(paper.writing.wires, total.wires)
                for _, row in paper.writing.terms:
                    self.assertLessEqual(own_longest(row), size)
                for weight, row, tops in paper.steps:
                    self.assertNotEqual(weight, 0)
                    self.assertEqual(len(row), total.wires)
                    self.assertEqual(len(tops), size + 1)
                    self.assertEqual(list(tops), sorted(set(tops)))
                rows = [row for _, row, _ in paper.steps]
                self.assertEqual(len(rows), len(set(rows)))
                self.assertEqual(own_stood(paper.steps), difference(total, paper.writing))
                self.assertEqual(written_by(total, size), paper)
                if size >= total.wires:
                    self.assertEqual(paper, Written(total, ()))

    def test_both_lead_alike(self):
        for total in some_sums(2):
            for size in range(1, total.wires + 1):
                writing = written(total, size)
                for tops in patterns(total.wires, size):
                    self.assertEqual(numbers_of(total.terms, tops), numbers_of(writing.terms, tops))

    def test_smaller_and_greater_sizes(self):
        for total in some_sums(3):
            for size in range(1, total.wires + 1):
                for greater in range(size, total.wires + 2):
                    self.assertEqual(written(written(total, greater), size), written(total, size))

    def test_what_is_made_of_sums(self):
        draw = random.Random(4)
        for wires in range(1, 6):
            for size in sizes_of(wires):
                one, other = drawn_sum(draw, wires, 5), drawn_sum(draw, wires, 5)
                two = [written(one, size), written(other, size)]
                self.assertEqual(written(one + other, size), two[0] + two[1])
                self.assertEqual(written(one - other, size), two[0] - two[1])
                self.assertEqual(written(one.times(-7), size), two[0].times(-7))
                self.assertEqual(written(one.back(), size), two[0].back())
                self.assertEqual(written(one * other, size), written(two[0] * two[1], size))
                for more in range(1, 7 - wires):
                    beside = drawn_sum(draw, more, 3)
                    self.assertEqual(written(one.beside(beside), size), two[0].beside(written(beside, size)))

    def test_closed(self):
        draw = random.Random(5)
        for wires in range(2, 6):
            for size in sizes_of(wires):
                total = drawn_sum(draw, wires, 6)
                sides = []
                for told in (total, written(total, size)):
                    plain, looped = told.closed()
                    sides.append(written(plain + looped.times(size), size))
                self.assertEqual(sides[0], sides[1])

    def test_a_sum_is_not_changed(self):
        total = Sum(3, [[2, [2, 1, 0]]])
        before = total.terms
        for function in (written, written_by, judged):
            function(size=1, total=total)
        least_size(total=total)
        self.assertEqual((total.wires, total.terms), (3, before))


class JudgedTest(Case):
    def test_all_sums(self):
        for total in some_sums(6):
            if total.wires == 6:
                continue
            for size in sizes_of(total.wires):
                nothing = is_nothing(total.terms, total.wires, min(size, total.wires))
                paper = judged(total, size)
                self.assertEqual(len(written(total, size)) == 0, nothing)
                self.assertIs(type(paper), Nothing if nothing else Something)
                self.assertIs(bool(paper), nothing)
                self.assertEqual(judged(total, size), paper)
                if nothing:
                    self.assertEqual((paper.word, paper.parts), ("nothing", (paper.steps,)))
                    self.assertEqual(own_stood(paper.steps), as_dict(total))
                    self.assertTrue(all(len(tops) == size + 1 for _, _, tops in paper.steps))
                    self.assertEqual(len({row for _, row, _ in paper.steps}), len(paper.steps))
                else:
                    self.shown(total, size, paper)

    def shown(self, total, size, paper):
        self.assertEqual((paper.word, paper.parts), ("something", (paper.tops, paper.bottoms)))
        self.assertTrue(all(0 <= k < size for k in paper.tops + paper.bottoms))
        self.assertNotEqual(numbers_of(total.terms, paper.tops).get(paper.bottoms, 0), 0)

    def test_crossings(self):
        draw = random.Random(7)
        for wires in range(1, 7):
            for many in range(1, wires + 1):
                total = crossing(drawn_row(draw, wires), drawn_tops(draw, wires, many)).times(-GREAT)
                for size in range(1, wires + 2):
                    paper = judged(total, size)
                    self.assertIs(bool(paper), size < many)
                    if size < many:
                        self.assertEqual(own_stood(paper.steps), as_dict(total))
                    else:
                        self.shown(total, size, paper)
                self.assertEqual(least_size(total), many)

    def test_least_size(self):
        for total in some_sums(8):
            want = None
            for size in range(total.wires, 0, -1):
                if total.wires < 6 and not is_nothing(total.terms, total.wires, size):
                    want = size
            if total.wires < 6:
                self.assertEqual(least_size(total), want)
        self.assertEqual(least_size(Sum(6, [])), None)

    def test_six_wires_in_a_short_time(self):
        draw = random.Random(9)
        latest = (5, 4, 3, 2, 1, 0)
        many = Sum(6, [(draw.randint(1, GREAT), row) for row in rows_of(6)])
        for total in (Sum.of(latest), many, drawn_sum(draw, 6, 30) + Sum.of(latest).times(100)):
            for size in (1, 2, 3):
                begin = time.perf_counter()
                paper = written_by(total, size)
                self.assertLess(time.perf_counter() - begin, 5)
                self.assertEqual(own_stood(paper.steps), difference(total, paper.writing))
                self.assertLessEqual(max(own_longest(row) for _, row in paper.writing.terms), size)
                for tops in ((0, 0, 0, 0, 0, 0), (0, 1, 0, 1, 0, 1), (0, 1, 2, 0, 1, 2), (1, 0, 0, 2, 2, 1)):
                    if max(tops) < size:
                        self.assertEqual(numbers_of(total.terms, tops), numbers_of(paper.writing.terms, tops))


class EdgesTest(Case):
    def test_size_one(self):
        for total in some_sums(10):
            weights = sum(weight for weight, _ in total.terms)
            self.assertEqual(written(total, 1), Sum.of(tuple(range(total.wires))).times(weights))

    def test_one_kept_wiring(self):
        for wires in range(1, 5):
            for row in rows_of(wires):
                for size in sizes_of(wires):
                    self.assertEqual(written(Sum.of(row), size) == Sum.of(row), own_longest(row) <= size)
                self.assertEqual(least_size(Sum.of(row)), 1)

    def test_refused(self):
        total = Sum.of((2, 1, 0))
        no_sums = [((2, 1, 0),), (2, 1, 0), str(total), total.terms, [total], Written(total, ()), *ODD_VALUES]
        for function in (written, written_by, judged):
            for value in no_sums:
                self.refused(BadSum("total"), function, value, 2)
                self.refused(BadSum("total"), function, value, 0)
            for size in NO_SIZES + ODD_VALUES:
                self.refused(BadNumber("size"), function, total, size)
                self.refused(BadNumber("size"), function, size=size, total=Sum(1, []))
        for value in no_sums:
            self.refused(BadSum("total"), least_size, value)
