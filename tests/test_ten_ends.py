"""Sums of ties of ten ends: the same answers by other ways, and a few hundred of them in a short time."""

import random
import time

from fromsize.check_ties import shows_judged_ties
from fromsize.crossings import crossing
from fromsize.rises import kept_ties
from fromsize.sums import Sum
from fromsize.tie_sums import TieSum
from fromsize.tie_written import NothingTied, judged_ties, tie_crossing, ties_written
from fromsize.ties import ties_behind
from fromsize.written import judged, written
from tests.own import GREAT, Case, drawn_sum
from tests.own_ties import (drawn_ends, drawn_plain, drawn_tie_sum, drawn_ties, matchings, numbers_taken, own_behind, own_stood_ties,
                            ties_dict, ties_product, ties_sum)

SIZES = (1, 2, 3, 4, 5, 6, GREAT)


def five_wires():
    """A sum of four wirings and a crossing of four wires."""
    rows = [(3, (4, 3, 2, 1, 0)), (-5, (2, 4, 1, 3, 0)), (7, (4, 2, 3, 0, 1)), (2, (3, 4, 0, 2, 1))]
    return Sum(5, rows) + crossing((4, 3, 2, 1, 0), (0, 1, 2, 3)).times(3)


def own_longest(row):
    """How many ends the longest rise has."""
    found = []
    for end, partner in enumerate(row):
        found.append(1 + max((found[other] for other in range(end) if row[other] < partner), default=0))
    return max(found)


class AnswersTest(Case):
    def test_wired_sums(self):
        draw = random.Random(1)
        for total in [five_wires()] + [drawn_sum(draw, 5, 12) for _ in range(4)]:
            ties = TieSum.wired(total)
            self.assertEqual(ties * ties, TieSum.wired(total * total))
            for size in SIZES:
                self.assertEqual(ties_written(ties, size), TieSum.wired(written(total, size)))
                self.assertIs(bool(judged_ties(ties, size)), bool(judged(total, size)))
                self.assertTrue(shows_judged_ties(ties, size, judged_ties(ties, size)))

    def test_the_first_sum(self):
        """How many ties the writings have, and what is taken by the setting that is told."""
        ties = TieSum.wired(five_wires())
        self.assertEqual([len(ties_written(ties, size)) for size in (1, 2, 3, 4, 5, 6)], [1, 35, 92, 119, 26, 26])
        self.assertEqual(str(ties_written(ties, 1)), "10 : 9876543210 7")
        self.assertEqual(len(ties * ties), 96)
        for size in (1, 2, 3, 4, 5, 6):
            setting = judged_ties(ties, size).setting
            self.assertNotEqual(numbers_taken(ties, setting, size), 0)

    def test_other_sums(self):
        draw = random.Random(2)
        for many in (1, 3, 20, 200):
            total = drawn_plain(draw, 10, many)
            for size in SIZES:
                writing = ties_written(total, size)
                self.assertTrue(all(own_longest(row) <= size for _, row in writing.terms))
                paper = judged_ties(total - writing, size)
                self.assertIs(type(paper), NothingTied)
                self.assertEqual(own_stood_ties(paper.steps), ties_dict(total - writing))
                self.assertTrue(shows_judged_ties(total - writing, size, paper))
                self.assertIs(bool(judged_ties(total, size)), len(writing) == 0)
                if not judged_ties(total, size):
                    self.assertNotEqual(numbers_taken(total, judged_ties(total, size).setting, size), 0)

    def test_crossings(self):
        draw = random.Random(3)
        for many in (2, 3, 4, 5):
            row = drawn_ties(draw, 10)
            total = tie_crossing(row, drawn_ends(draw, row, many)).times([GREAT])
            self.assertEqual([bool(judged_ties(total, size)) for size in SIZES], [size < many for size in SIZES])
            self.assertEqual([len(ties_written(total, size)) == 0 for size in SIZES], [size < many for size in SIZES])

    def test_all_kept_ties(self):
        for ends in (2, 4, 6, 8, 10):
            longest = {row: own_longest(row) for row in matchings(ends)}
            for size in SIZES:
                self.assertEqual(kept_ties(ends, size), tuple(row for row in matchings(ends) if longest[row] <= size))

    def test_behind_one_another(self):
        draw = random.Random(4)
        for many in (1, 4, 30):
            one, other = drawn_tie_sum(draw, 10, many), drawn_tie_sum(draw, 10, many, GREAT, 5)
            self.assertEqual(one * other, ties_sum(10, ties_product(ties_dict(one), ties_dict(other))))
        for ends in (2, 4, 6, 8, 10):
            for _ in range(60):
                one, other = drawn_ties(draw, ends), drawn_ties(draw, ends)
                self.assertEqual(ties_behind(one, other), own_behind(one, other))

    def test_loops_of_each_kind(self):
        """Rings of two points and of four, beside ways that turn back once and again."""
        rows = [(1, 0, 3, 2, 9, 8, 7, 6, 5, 4), (1, 0, 3, 2, 5, 4, 7, 6, 9, 8), (3, 2, 1, 0, 5, 4, 9, 8, 7, 6),
                (9, 2, 1, 4, 3, 6, 5, 8, 7, 0), (2, 3, 0, 1, 9, 8, 7, 6, 5, 4), (1, 0, 9, 4, 3, 6, 5, 8, 7, 2)]
        for one in rows:
            for other in rows:
                ties, loops = own_behind(one, other)
                self.assertEqual(ties_behind(one, other), (ties, loops))
                self.assertEqual(TieSum.of(one) * TieSum.of(other), TieSum(10, [((0,) * loops + (1,), ties)]))
        # The bottoms 1 and 4, 2 and 3 are tied: tops that are tied likewise are two rings, the next ones a ring of four.
        for other, loops in (((9, 4, 3, 2, 1, 6, 5, 8, 7, 0), 2), (rows[3], 1), (rows[1], 1), (rows[5], 0), (rows[4], 0)):
            self.assertEqual(ties_behind(rows[0], other)[1], loops)


class TimesTest(Case):
    def in_time(self, function, *values):
        """A few hundred calls, and no more than two seconds."""
        start = time.process_time()
        for _ in range(100):
            for more in values:
                function(more)
        self.assertLess(time.process_time() - start, 2)

    def test_writings(self):
        ties = TieSum.wired(five_wires())
        self.in_time(lambda size: ties_written(ties, size), 1, 2, 3, 4, 5, 6)
        self.in_time(lambda size: judged_ties(ties, size), 1, 2, 3, 4, 5, 6)

    def test_where_all_ties_are_kept(self):
        """The sum is its own writing: even for all ties no time is needed."""
        total = TieSum(10, [((number + 1,), row) for number, row in enumerate(matchings(10))])
        self.in_time(lambda size: ties_written(total, size), 5, 6, 7, GREAT)
        self.in_time(lambda size: judged_ties(total, size), 5, 6, 7, GREAT)

    def test_kept_ties(self):
        self.in_time(lambda size: kept_ties(10, size), 1, 2, 3, 4, 5, 6)
        self.in_time(lambda size: kept_ties(8, size), 1, 2, 3, 4, 5, 6)

    def test_products(self):
        ties = TieSum.wired(five_wires())
        self.in_time(lambda _: ties * ties, 1, 2, 3, 4, 5)

    def test_papers_that_are_shown(self):
        """As many steps as there may be, of few crossings."""
        steps = judged_ties(tie_crossing((1, 0, 3, 2, 5, 4, 7, 6, 9, 8), (0, 2, 4, 6, 8)).times([5]), 4).steps
        total = tie_crossing((1, 0, 3, 2, 5, 4, 7, 6, 9, 8), (0, 2, 4, 6, 8)).times([5 * (945 // len(steps))])
        start = time.process_time()
        self.assertTrue(shows_judged_ties(total, 4, NothingTied(steps * (945 // len(steps)))))
        self.assertLess(time.process_time() - start, 1)
