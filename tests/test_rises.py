"""Rises of ties against a trial of all lots of ends."""

import random

from fromsize.errors import BadNumber, BadTies
from fromsize.falls import colours, is_kept
from fromsize.rises import kept_ties, longest_rise, tie_colours, ties_kept
from fromsize.ties import ties_of
from tests.own import GREAT, NO_SIZES, ODD_VALUES, Case, rows_of
from tests.own_ties import NO_ENDS, NO_TIES, drawn_ties, matchings, own_rises


def some_ties():
    draw = random.Random(1)
    return [row for ends in (2, 4, 6, 8) for row in matchings(ends)] + [drawn_ties(draw, 10) for _ in range(60)]


class ColoursTest(Case):
    def test_against_all_lots_of_ends(self):
        for row in some_ties():
            rises = own_rises(row)
            want = tuple(max(len(rise) for rise in rises if rise[-1] == end) - 1 for end in range(len(row)))
            self.assertEqual(tie_colours(row), want)
            self.assertEqual(tie_colours(ties=list(row)), want)
            longest = longest_rise(row)
            self.assertIn(longest, rises)
            self.assertEqual(len(longest), max(len(rise) for rise in rises))
            self.assertEqual(longest_rise(ties=list(row)), longest)
            for size in range(1, len(row) + 1):
                self.assertIs(ties_kept(row, size), len(longest) <= size)

    def test_facts(self):
        for row in some_ties():
            told = tie_colours(row)
            self.assertTrue(all(told[end] == told[partner] for end, partner in enumerate(row)))
            self.assertEqual(sorted(set(told)), list(range(len(longest_rise(row)))))
            for rise in own_rises(row):
                self.assertTrue(all(row[end] not in rise for end in rise))
            for colour in set(told):
                ends = [end for end in range(len(row)) if told[end] == colour]
                self.assertEqual([row[end] for end in ends], ends[::-1])

    def test_wirings(self):
        for wires in range(1, 6):
            for row in rows_of(wires):
                self.assertEqual(tie_colours(ties_of(row))[:wires], colours(row))
                for size in range(1, wires + 1):
                    self.assertIs(ties_kept(ties_of(row), size), is_kept(row, size))


class KeptTest(Case):
    def test_all_kept_ties(self):
        for ends in (2, 4, 6, 8):
            longest = {row: max(len(rise) for rise in own_rises(row)) for row in matchings(ends)}
            for size in list(range(1, ends + 2)) + [GREAT]:
                want = tuple(row for row in matchings(ends) if longest[row] <= size)
                self.assertEqual(kept_ties(ends, size), want)
                self.assertEqual(kept_ties(size=size, ends=ends), want)

    def test_ten_ends(self):
        for size in (1, 2, 3, 4, 5, 6, GREAT):
            rows = kept_ties(10, size)
            self.assertEqual(list(rows), sorted(set(rows)))
            self.assertEqual(rows, tuple(row for row in matchings(10) if ties_kept(row, size)))

    def test_how_many(self):
        """At size 1 one; at a size one less than half of the ends most; from half of them on all."""
        told = {ends: [len(kept_ties(ends, size)) for size in (1, 2, 3, 4, 5, 6)] for ends in (2, 4, 6, 8, 10)}
        self.assertEqual(told[2], [1, 1, 1, 1, 1, 1])
        self.assertEqual(told[4], [1, 3, 3, 3, 3, 3])
        self.assertEqual(told[6], [1, 10, 15, 15, 15, 15])
        self.assertEqual(told[8], [1, 35, 91, 105, 105, 105])
        self.assertEqual(told[10], [1, 126, 603, 903, 945, 945])

    def test_at_size_one(self):
        for ends in (2, 4, 6, 8, 10):
            self.assertEqual(kept_ties(ends, 1), (tuple(range(ends))[::-1],))
            self.assertEqual(max(matchings(ends)), tuple(range(ends))[::-1])

    def test_great_sizes(self):
        for row in some_ties():
            self.assertIs(ties_kept(row, GREAT), True)
            self.assertIs(ties_kept(row, len(row) // 2), True)

    def test_refused(self):
        for value in NO_TIES + ODD_VALUES:
            for function in (tie_colours, longest_rise):
                self.refused(BadTies("ties"), function, value)
            self.refused(BadTies("ties"), ties_kept, value, 1)
            self.refused(BadTies("ties"), ties_kept, value, 0)
        for size in NO_SIZES + ODD_VALUES:
            self.refused(BadNumber("size"), ties_kept, [1, 0], size)
            self.refused(BadNumber("size"), kept_ties, 4, size)
        for ends in NO_ENDS + ODD_VALUES:
            self.refused(BadNumber("ends"), kept_ties, ends, 2)
            self.refused(BadNumber("ends"), kept_ties, ends, 0)
