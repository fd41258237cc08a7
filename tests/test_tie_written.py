"""Crossings of ties and writings, against all ways to deal done by the test."""

import random
from itertools import combinations, product

from fromsize.errors import BadEnds, BadNumber, BadTies, BadTieSum, Misfit
from fromsize.rises import kept_ties, ties_kept
from fromsize.sums import Sum
from fromsize.tie_sums import TieSum
from fromsize.tie_written import NothingTied, SomethingTied, judged_ties, tie_crossing, ties_written
from fromsize.ties import ties_of
from fromsize.crossings import crossing
from fromsize.written import judged, written
from tests.own import GREAT, NO_SIZES, ODD_VALUES, Case, drawn_row, drawn_sum, drawn_tops
from tests.own_ties import (NO_TIES, drawn_ends, drawn_plain, drawn_ties, matchings, numbers_taken, own_dealt, own_stood_ties,
                            ties_dict)

ENDS = (2, 4, 6, 8, 10)


def sizes_of(ends):
    return list(range(1, ends // 2 + 2)) + [GREAT]


def is_nothing(total, size):
    """Whether every setting of the size is taken with 0, settings that are alike but for names left out."""
    settings = [()]
    for _ in range(total.ends):
        settings = [row + (k,) for row in settings for k in range(min(size, max(row, default=-1) + 2))]
    return all(numbers_taken(total, setting, size) == 0 for setting in settings)


class CrossingTest(Case):
    def test_all_lots_of_ends(self):
        for ends in (2, 4, 6):
            for row in matchings(ends):
                for many in range(1, ends + 1):
                    for told in combinations(range(ends), many):
                        if any(row[end] in told for end in told):
                            self.refused(BadEnds("ends"), tie_crossing, row, told)
                        else:
                            want = own_dealt(row, told)
                            total = tie_crossing(row, told)
                            self.assertEqual(ties_dict(total), {ties: (sign,) for ties, sign in want.items()})
                            self.assertEqual(tie_crossing(ends=list(told), ties=list(row)), total)

    def test_eight_and_ten_ends(self):
        draw = random.Random(1)
        for ends in (8, 10):
            for many in range(1, ends // 2 + 1):
                for _ in range(4):
                    row = drawn_ties(draw, ends)
                    told = drawn_ends(draw, row, many)
                    total = tie_crossing(row, told)
                    self.assertEqual(ties_dict(total), {ties: (sign,) for ties, sign in own_dealt(row, told).items()})
                    self.assertEqual(total.weight(row), (1,))

    def test_one_end(self):
        for row in matchings(6):
            for end in range(6):
                self.assertEqual(tie_crossing(row, [end]), TieSum.of(row))

    def test_exchanges_turn_the_sign(self):
        draw = random.Random(2)
        for ends in (4, 6, 8, 10):
            row = drawn_ties(draw, ends)
            told = drawn_ends(draw, row, 2)
            one, other = [row[end] for end in told]
            new = list(row)
            new[told[0]], new[told[1]], new[one], new[other] = other, one, told[1], told[0]
            self.assertEqual(tie_crossing(row, told), TieSum.of(row) - TieSum.of(new))

    def test_nothing_at_less_than_the_ends(self):
        draw = random.Random(3)
        for ends in (4, 6, 8):
            for many in range(2, ends // 2 + 1):
                row = drawn_ties(draw, ends)
                total = tie_crossing(row, drawn_ends(draw, row, many))
                for size in range(1, ends // 2 + 1):
                    self.assertIs(is_nothing(total, size), size < many)

    def test_wirings(self):
        draw = random.Random(4)
        for wires in range(1, 6):
            for many in range(1, wires + 1):
                row, tops = drawn_row(draw, wires), drawn_tops(draw, wires, many)
                self.assertEqual(tie_crossing(ties_of(row), tops), TieSum.wired(crossing(row, tops)))

    def test_refused(self):
        row = (1, 0, 5, 4, 3, 2)
        for value in NO_TIES + ODD_VALUES:
            self.refused(BadTies("ties"), tie_crossing, value, [0])
            self.refused(BadTies("ties"), tie_crossing, value, None)
        for ends in [[], (), [0, 0], [2, 0], [0, 1], [2, 5], [0, 2, 5], [6], [0, 6], [-1], [-1, 0], [True], [False, 2], [0, True],
                     ["0"], [0.0], [None], "0", 0, None, {0: 1}, {0}, [[0]], [0, 2, 3, 4], [0, 2, 2], range(1), [GREAT], [1, 0],
                     [3, 2], *ODD_VALUES]:
            self.refused(BadEnds("ends"), tie_crossing, row, ends)


class WritingTest(Case):
    def written(self, total, size):
        """The writing, with what shows it: all ties kept, and the difference made of crossings."""
        writing = ties_written(total, size)
        self.assertEqual(ties_written(size=size, total=total), writing)
        self.assertEqual(writing.ends, total.ends)
        self.assertTrue(all(ties_kept(row, size) and len(weight) == 1 for weight, row in writing.terms))
        paper = judged_ties(total - writing, size)
        self.assertIs(type(paper), NothingTied)
        self.assertLessEqual(len(paper.steps), 945)
        self.assertEqual(own_stood_ties(paper.steps), ties_dict(total - writing))
        for weight, row, told in paper.steps:
            self.assertTrue(weight != 0 and len(row) == total.ends and len(told) == size + 1)
            self.assertTrue(list(told) == sorted(set(told)) and all(row[end] not in told for end in told))
        return writing

    def test_all_ties(self):
        for ends in (2, 4, 6):
            for row in matchings(ends):
                for size in sizes_of(ends):
                    writing = self.written(TieSum.of(row), size)
                    if ties_kept(row, size):
                        self.assertEqual(writing, TieSum.of(row))

    def test_drawn_sums(self):
        draw = random.Random(5)
        for ends in ENDS:
            for great in (3, GREAT):
                for _ in range(3):
                    total = drawn_plain(draw, ends, 8, great)
                    for size in sizes_of(ends):
                        writing = self.written(total, size)
                        if size >= ends // 2:
                            self.assertEqual(writing, total)

    def test_what_is_taken_stays(self):
        draw = random.Random(6)
        for ends in (2, 4, 6):
            total = drawn_plain(draw, ends)
            for size in (1, 2, 3):
                writing = ties_written(total, size)
                for setting in product(range(size), repeat=ends):
                    self.assertEqual(total.taken(setting), writing.taken(setting))

    def test_a_whole_sum(self):
        total = TieSum(10, [((number + 1,), row) for number, row in enumerate(matchings(10))])
        for size in sizes_of(10):
            self.written(total, size)

    def test_writings_of_wirings(self):
        draw = random.Random(7)
        for wires in range(1, 6):
            for _ in range(3):
                total = drawn_sum(draw, wires)
                for size in sizes_of(2 * wires):
                    self.assertEqual(ties_written(TieSum.wired(total), size), TieSum.wired(written(total, size)))
                    self.assertIs(bool(judged_ties(TieSum.wired(total), size)), bool(judged(total, size)))

    def test_writings_of_what_comes(self):
        draw = random.Random(8)
        for ends in (4, 6, 8):
            for size in (1, 2, 3):
                one, other = drawn_plain(draw, ends), drawn_plain(draw, ends)
                told, more = ties_written(one, size), ties_written(other, size)
                self.assertEqual(ties_written(one + other, size), told + more)
                self.assertEqual(ties_written(one.back(), size), ties_written(told.back(), size))
                self.assertEqual(ties_written((one * other).at(size), size), ties_written((told * more).at(size), size))
                self.assertEqual(ties_written(one.closed().at(size), size), ties_written(told.closed().at(size), size))
                self.assertEqual(ties_written(ties_written(one, size + 1), size), told)

    def test_wirings_in_words(self):
        self.assertEqual(str(ties_written(TieSum.of([1, 0, 3, 2]), 1)), "4 : 3210 1")
        self.assertEqual(ties_written(TieSum.wired(Sum.of((2, 1, 0))), 2), TieSum.wired(written(Sum.of((2, 1, 0)), 2)))


class JudgedTest(Case):
    def judged(self, total, size):
        paper = judged_ties(total, size)
        self.assertEqual(judged_ties(size=size, total=total), paper)
        self.assertIs(bool(paper), len(ties_written(total, size)) == 0)
        if paper:
            self.assertIs(type(paper), NothingTied)
            self.assertEqual((paper.word, paper.parts), ("nothingtied", (paper.steps,)))
            self.assertLessEqual(len(paper.steps), len(total) + 945)
            self.assertEqual(own_stood_ties(paper.steps), ties_dict(total))
            self.assertTrue(all(weight != 0 and len(told) == size + 1 for weight, _, told in paper.steps))
        else:
            self.assertIs(type(paper), SomethingTied)
            self.assertEqual((paper.word, paper.parts), ("somethingtied", (paper.setting,)))
            self.assertEqual((type(paper.setting), len(paper.setting)), (tuple, total.ends))
            self.assertTrue(all(type(k) is int and 0 <= k < size for k in paper.setting))
            self.assertNotEqual(numbers_taken(total, paper.setting, size), 0)
        return paper

    def test_against_all_settings(self):
        draw = random.Random(9)
        for ends in (2, 4, 6):
            sums = [TieSum(ends, [])] + [drawn_plain(draw, ends) for _ in range(4)]
            for many in range(1, ends // 2 + 1):
                for _ in range(3):
                    row = drawn_ties(draw, ends)
                    sums.append(tie_crossing(row, drawn_ends(draw, row, many)).times([draw.choice([-2, 1, GREAT])]))
            for total in sums:
                for size in range(1, ends // 2 + 2):
                    self.assertIs(bool(self.judged(total, size)), is_nothing(total, size))

    def test_eight_and_ten_ends(self):
        draw = random.Random(10)
        for ends in (8, 10):
            for many in range(2, ends // 2 + 1):
                row, other = drawn_ties(draw, ends), drawn_ties(draw, ends)
                total = tie_crossing(row, drawn_ends(draw, row, many)) - tie_crossing(other, drawn_ends(draw, other, many)).times([3])
                for size in sizes_of(ends):
                    if size < many:
                        self.assertTrue(self.judged(total, size))
                    else:
                        self.judged(total, size)
                    self.judged(drawn_plain(draw, ends), size)

    def test_without_ties(self):
        for ends in ENDS:
            for size in sizes_of(ends):
                self.assertEqual(self.judged(TieSum(ends, []), size), NothingTied(()))

    def test_kept_ties_are_something(self):
        for ends in (2, 4, 6):
            for size in (1, 2, 3):
                for row in kept_ties(ends, size):
                    self.assertFalse(self.judged(TieSum.of(row), size))

    def test_refused(self):
        two = TieSum.of((1, 0, 3, 2))
        hanging = [two.times([0, 1]), two.times([0, 0, 4]), two + TieSum.of((3, 2, 1, 0)).times([5, 1]), two * two]
        for function in (ties_written, judged_ties):
            for value in [Sum.of((1, 0)), (1, 0, 3, 2), two.terms, str(two), TieSum, *ODD_VALUES]:
                self.refused(BadTieSum("total"), function, value, 2)
                self.refused(BadTieSum("total"), function, value, 0)
            for size in NO_SIZES + ODD_VALUES:
                self.refused(BadNumber("size"), function, two, size)
                self.refused(BadNumber("size"), function, hanging[0], size)
            for total in hanging:
                for size in (1, 2, GREAT):
                    self.refused(Misfit("weights"), function, total, size)
            function(two.times([7]).at(3), 2)
