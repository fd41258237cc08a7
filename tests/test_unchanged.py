"""Measures that are the same in every base, and such that are not, against the test's own products."""

import random
import time
from itertools import product

from fromsize.errors import BadMeasure, TooMany
from fromsize.measures import Measure, measure_of, measure_of_ties
from fromsize.sums import Sum
from fromsize.tie_sums import TieSum
from fromsize.unchanged import Changed, Unchanged, unchanged
from fromsize.written import judged, written
from tests.own import GREAT, ODD_VALUES, Case, drawn_row, drawn_sum
from tests.own_formulas import own_product
from tests.own_measures import all_lists, base_table, drawn_list, drawn_measure, measure_dict, own_measure_of, own_worth, unit
from tests.own_ties import drawn_plain

# Sizes and numbers of tables with at most 100 entries.
SEARCHED = [(size, many) for size in (1, 2, 3, 4) for many in (1, 2, 3, 4, 5) if size ** many <= 100]
NO_MEASURES = [Sum.of((0,)), TieSum.of((1, 0)), Measure, "2 1 :", (2, 1, ()), ((1, ((0, 0),)),), *ODD_VALUES]


def is_own_change(measure, row, other, units):
    """Whether the units have another worth in the base, multiplied out."""
    told = measure_dict(measure)
    one, back = base_table(measure.size, row, other)
    tables = [unit(place, measure.size) for place in units]
    return own_worth(told, tables) != own_worth(told, [own_product(own_product(one, table), back) for table in tables])


class UnchangedTest(Case):
    def asked(self, measure, want=None):
        """The paper, shown by the test's own; want tells which one it must be."""
        paper = unchanged(measure)
        self.assertEqual(unchanged(measure=measure), paper)
        if paper:
            self.assertIs(type(paper), Unchanged)
            self.assertEqual((paper.word, paper.parts), ("unchanged", (paper.total,)))
            self.assertEqual(paper.total.wires, measure.many)
            self.assertEqual(written(paper.total, measure.size), paper.total)
            self.assertEqual(own_measure_of(paper.total, measure.size) if measure.size ** (2 * measure.many) < 5000 else None,
                             measure_dict(measure) if measure.size ** (2 * measure.many) < 5000 else None)
        else:
            self.assertIs(type(paper), Changed)
            self.assertEqual((paper.word, paper.parts), ("changed", (paper.row, paper.other, paper.units)))
            self.assertTrue(0 <= paper.row < measure.size and 0 <= paper.other < measure.size and paper.row != paper.other)
            self.assertEqual((type(paper.units), len(paper.units)), (tuple, measure.many))
            self.assertTrue(is_own_change(measure, paper.row, paper.other, paper.units))
        if want is not None:
            self.assertIs(bool(paper), want)
        return paper

    def test_measures_of_sums(self):
        """The writing of the sum comes back; with one list more, or a weight changed, a Changed."""
        draw = random.Random(1)
        for size, many in SEARCHED:
            for great in (5, GREAT):
                for _ in range(3):
                    total = drawn_sum(draw, many, 6, great)
                    measure = measure_of(total, size)
                    self.assertEqual(self.asked(measure, True).total, written(total, size))
                    more = measure + Measure(size, many, [(draw.choice([-1, 1, GREAT]), drawn_list(draw, size, many))])
                    self.asked(more, size == 1)
                    if measure.terms and size > 1:
                        weight, places = draw.choice(measure.terms)
                        self.asked(measure + Measure(size, many, [(-weight, places)]), False)
                        self.asked(measure + Measure(size, many, [(1, places)]), False)

    def test_single_lists(self):
        """A measure of one list is changed; so is one of one table whose weights are no number times the trace."""
        for size, many in ((2, 1), (2, 2), (3, 1), (4, 1)):
            for places in all_lists(size, many):
                self.asked(Measure(size, many, [(3, places)]), False)
        for weights in product((-1, 0, 1), repeat=4):
            measure = Measure(2, 1, [(weight, [place]) for weight, place in zip(weights, product(range(2), repeat=2))])
            self.asked(measure, weights[1] == weights[2] == 0 and weights[0] == weights[3])

    def test_drawn_measures(self):
        draw = random.Random(2)
        for size, many in SEARCHED:
            for _ in range(4):
                measure = drawn_measure(draw, size, many)
                self.asked(measure, True if size == 1 else None)

    def test_small_changes(self):
        """Measures that are left by some bases alone: a list of the last row and column, of one base's units, of ties."""
        draw = random.Random(3)
        for size, many in SEARCHED:
            if size > 1:
                base = measure_of(drawn_sum(draw, many), size)
                for k in range(size):
                    self.asked(base + Measure(size, many, [(1, [(k, k)] * many)]), False)
                    self.asked(base + Measure(size, many, [(1, [(k, size - 1)] * many)]), False)
                ties = drawn_plain(draw, 2 * many)
                self.asked(measure_of_ties(ties, size))
        self.asked(measure_of_ties(TieSum.of((1, 0, 3, 2)), 2), False)
        self.asked(measure_of_ties(TieSum.of((1, 0, 3, 2)) - TieSum.of((2, 3, 0, 1)), 2), False)

    def test_without_lists(self):
        for size, many in SEARCHED:
            self.assertEqual(self.asked(Measure(size, many, []), True), Unchanged(Sum(many, [])))

    def test_at_size_one(self):
        for many in (1, 2, 3, 4, 5):
            measure = Measure(1, many, [(-7, [(0, 0)] * many)])
            self.assertEqual(self.asked(measure, True).total, Sum.of(tuple(range(many))).times(-7))

    def test_no_more_than_a_wire_more_than_the_size(self):
        """The measure of the sum that is nothing at a size has no list there."""
        draw = random.Random(4)
        for size, many in SEARCHED:
            total = drawn_sum(draw, many)
            self.assertIs(bool(judged(total, size)), measure_of(total, size).terms == ())
            row = drawn_row(draw, many)
            self.assertEqual(unchanged(measure_of(Sum.of(row), size)).total, written(Sum.of(row), size))

    def test_refused(self):
        for value in NO_MEASURES:
            self.refused(BadMeasure("measure"), unchanged, value)
        for size, many in ((4, 4), (3, 5)):
            self.refused(TooMany("entries", 100), unchanged, Measure(size, many, []))
            self.refused(TooMany("entries", 100), unchanged, Measure(size, many, [(1, [(0, 0)] * many)]))
        for size, many in ((3, 4), (4, 3), (2, 5)):
            self.asked(Measure(size, many, [(1, [(0, 0)] * many)]), False)

    def test_in_a_short_time(self):
        draw = random.Random(5)
        start = time.process_time()
        for size, many in ((3, 4), (4, 3), (2, 5)):
            places = [tuple((k // size, k % size) for k in draw.choices(range(size * size), k=many)) for _ in range(4000)]
            full = Measure(size, many, [(draw.choice([-2, 1, 3]), each) for each in places])
            self.assertFalse(unchanged(full))
            self.assertFalse(unchanged(measure_of_ties(drawn_plain(draw, 2 * many, 40), size)))
        self.assertLess(time.process_time() - start, 3)
