"""Measures that are steady when tables are turned and mirrored, against the test's own products."""

import random
import time

from fromsize.errors import BadMeasure, TooMany
from fromsize.measures import Measure, measure_of, measure_of_ties
from fromsize.sums import Sum
from fromsize.tie_sums import TieSum
from fromsize.tie_written import ties_written
from fromsize.turns import Steady, Turned, steady
from fromsize.unchanged import unchanged
from tests.own import GREAT, Case, drawn_sum
from tests.own_formulas import own_over, own_product
from tests.own_measures import (all_lists, drawn_list, drawn_measure, measure_dict, own_measure_of_ties, own_worth, turn_table, unit)
from tests.own_ties import drawn_plain
from tests.test_unchanged import NO_MEASURES, SEARCHED


def is_own_turning(measure, axes, units):
    """Whether the units, turned or mirrored, have another worth than they should, multiplied out."""
    told = measure_dict(measure)
    turn = turn_table(measure.size, axes)
    tables = [unit(place, measure.size) for place in units]
    moved = [own_product(own_product(turn, table), own_over(turn)) for table in tables]
    factor = 1 if len(axes) == 1 else 25 ** measure.many
    return own_worth(told, moved) != factor * own_worth(told, tables)


class SteadyTest(Case):
    def asked(self, measure, want=None):
        """The paper, shown by the test's own; want tells which one it must be."""
        paper = steady(measure)
        self.assertEqual(steady(measure=measure), paper)
        if paper:
            self.assertIs(type(paper), Steady)
            self.assertEqual((paper.word, paper.parts), ("steady", (paper.total,)))
            self.assertEqual(paper.total.ends, 2 * measure.many)
            self.assertEqual(ties_written(paper.total, measure.size), paper.total)
            if measure.size ** (2 * measure.many) < 5000:
                self.assertEqual(own_measure_of_ties(paper.total, measure.size), measure_dict(measure))
        else:
            self.assertIs(type(paper), Turned)
            self.assertEqual((paper.word, paper.parts), ("turned", (paper.axes, paper.units)))
            self.assertTrue(len(paper.axes) in (1, 2) and list(paper.axes) == sorted(set(paper.axes)) and max(paper.axes) < measure.size)
            self.assertEqual((type(paper.units), len(paper.units)), (tuple, measure.many))
            self.assertTrue(is_own_turning(measure, paper.axes, paper.units))
        if want is not None:
            self.assertIs(bool(paper), want)
        return paper

    def test_measures_of_ties(self):
        """The writing of the ties comes back; with one list more, or a weight changed, a Turned."""
        draw = random.Random(1)
        for size, many in SEARCHED:
            for great in (5, GREAT):
                for _ in range(3):
                    total = drawn_plain(draw, 2 * many, 6, great)
                    measure = measure_of_ties(total, size)
                    self.assertEqual(self.asked(measure, True).total, ties_written(total, size))
                    more = measure + Measure(size, many, [(draw.choice([-1, 1, GREAT]), drawn_list(draw, size, many))])
                    self.asked(more, size == 1)
                    if measure.terms and size > 1:
                        weight, places = draw.choice(measure.terms)
                        self.asked(measure + Measure(size, many, [(-weight, places)]), False)

    def test_measures_of_sums(self):
        """What is the same in all bases is steady."""
        draw = random.Random(2)
        for size, many in SEARCHED:
            total = drawn_sum(draw, many, 6)
            measure = measure_of(total, size)
            self.assertEqual(self.asked(measure, True).total, ties_written(TieSum.wired(total), size))
            self.assertTrue(unchanged(measure))

    def test_single_lists(self):
        for size, many in ((2, 1), (2, 2), (3, 1), (4, 1)):
            for places in all_lists(size, many):
                self.asked(Measure(size, many, [(3, places)]), False)

    def test_signs_that_only_mirrors_turn(self):
        """Entries less those of the table turned over: all turns of two axes leave such a measure of two rows as it is."""
        apart = Measure.read("2 1 : 1 01 / -1 10")
        self.assertFalse(is_own_turning(apart, (0, 1), ((0, 1),)))
        self.assertEqual(len(self.asked(apart, False).axes), 1)
        draw = random.Random(3)
        for many in (2, 3, 4, 5):
            # The signs of two axes' orders, beside traces: turned, but not mirrored, it stays.
            other = measure_of_ties(drawn_plain(draw, 2 * many - 2, 3), 2)
            told = [(sign * weight, place + places) for sign, place in ((1, ((0, 1),)), (-1, ((1, 0),))) for weight, places in other.terms]
            measure = Measure(2, many, told)
            if measure.terms:
                for units in draw.sample(all_lists(2, many), 12):
                    self.assertFalse(is_own_turning(measure, (0, 1), units))
                self.assertEqual(len(self.asked(measure, False).axes), 1)
        three = Measure(3, 3, [(sign, [(one, other), (other, third), (third, one)]) for sign, (one, other, third) in
                               ((1, (0, 1, 2)), (1, (1, 2, 0)), (1, (2, 0, 1)), (-1, (0, 2, 1)), (-1, (2, 1, 0)), (-1, (1, 0, 2)))])
        self.asked(three, False)

    def test_drawn_measures(self):
        draw = random.Random(4)
        for size, many in SEARCHED:
            for _ in range(4):
                self.asked(drawn_measure(draw, size, many), True if size == 1 else None)

    def test_small_changes(self):
        """Lists of one row and column alone: no mirror, and not each turn, shows them."""
        draw = random.Random(5)
        for size, many in SEARCHED:
            if size > 1:
                base = measure_of_ties(drawn_plain(draw, 2 * many), size)
                for k in range(size):
                    paper = self.asked(base + Measure(size, many, [(1, [(k, k)] * many)]), False)
                    self.assertEqual(len(paper.axes), 2)
                    self.assertIn(k, paper.axes)

    def test_without_lists(self):
        for size, many in SEARCHED:
            self.assertEqual(self.asked(Measure(size, many, []), True), Steady(TieSum(2 * many, [])))

    def test_at_size_one(self):
        for many in (1, 2, 3, 4, 5):
            measure = Measure(1, many, [(-7, [(0, 0)] * many)])
            self.assertEqual(self.asked(measure, True).total, TieSum.wired(Sum.of(tuple(range(many)))).times([-7]))

    def test_refused(self):
        for value in NO_MEASURES:
            self.refused(BadMeasure("measure"), steady, value)
        for size, many in ((4, 4), (3, 5)):
            self.refused(TooMany("entries", 100), steady, Measure(size, many, []))
            self.refused(TooMany("entries", 100), steady, Measure(size, many, [(1, [(0, 0)] * many)]))

    def test_in_a_short_time(self):
        draw = random.Random(6)
        start = time.process_time()
        for size, many in ((3, 4), (4, 3), (2, 5)):
            places = [tuple((k // size, k % size) for k in draw.choices(range(size * size), k=many)) for _ in range(4000)]
            self.assertFalse(steady(Measure(size, many, [(draw.choice([-2, 1, 3]), each) for each in places])))
            ties = measure_of_ties(drawn_plain(draw, 2 * many, 40), size)
            self.assertTrue(steady(ties))
            self.assertFalse(steady(ties + Measure(size, many, [(1, [(size - 1, size - 1)] * many)])))
        self.assertLess(time.process_time() - start, 3)
