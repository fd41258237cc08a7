"""The sizes at which sums of ties are nothing, against papers at each size and weights multiplied out of drawn sizes."""

import random
import time

from fromsize.crossings import crossing
from fromsize.errors import BadTieSum, TooMany
from fromsize.sums import Sum
from fromsize.tie_sizes import sizes_nothing
from fromsize.tie_sums import TieSum
from fromsize.tie_written import judged_ties, tie_crossing
from tests.own import GREAT, ODD_VALUES, Case
from tests.own_ties import drawn_ends, drawn_tie_sum, drawn_ties, matchings, poly_at, poly_product


def weight_of(sizes, factor=(1,)):
    """A weight that is 0 at just these sizes, where the factor is 0 at none."""
    found = tuple(factor)
    for size in sizes:
        found = poly_product(found, (-size, 1))
    return found


class SizesTest(Case):
    def against_papers(self, total, upto):
        told = sizes_nothing(total)
        self.assertEqual(sizes_nothing(total=total), told)
        self.assertIs(type(told), tuple)
        self.assertEqual(list(told), sorted(set(told)))
        self.assertEqual([size for size in told if size <= upto],
                         [size for size in range(1, upto + 1) if judged_ties(total.at(size), size)])
        for size in told:
            self.assertTrue(judged_ties(total.at(size), size))
        return told

    def test_drawn_sums(self):
        draw = random.Random(1)
        for ends in (2, 4, 6, 8, 10):
            for _ in range(6 if ends < 10 else 1):
                total = drawn_tie_sum(draw, ends, 4)
                if len(total) > 0:
                    self.against_papers(total, ends + 3)
                row = drawn_ties(draw, ends)
                for many in range(1, ends // 2 + 1):
                    signed = tie_crossing(row, drawn_ends(draw, row, many))
                    self.assertEqual(self.against_papers(signed, ends), tuple(range(1, many)))
                    sizes = draw.sample(range(1, ends + 4), 3)
                    both = signed.times(weight_of(sizes, draw.choice([(1,), (-3,), (1, 0, 1)])))
                    want = tuple(sorted({*range(1, many), *sizes}))
                    self.assertEqual(self.against_papers(both, ends + 4), want)

    def test_one_weight(self):
        """Weights multiplied out of drawn sizes, some of them great, some told twice, some beside one another."""
        draw = random.Random(2)
        for number in range(150):
            most = draw.choice([6, 30, 10 ** 6, 10 ** 31, 10 ** 45])
            sizes = [draw.randint(1, most) for _ in range(draw.randint(0, 6))]
            sizes += [size + 1 for size in sizes[:1]] + sizes[:draw.randint(0, 2)]
            factor = draw.choice([(1,), (-1,), (GREAT,), (5,), (1, 1), (0, 1), (3, -2), (7, 5, 1), (-1, 2)])
            weight = weight_of(sizes, factor)
            self.assertLessEqual(len(weight), 12)
            total = TieSum(2, [(weight, (1, 0))])
            self.assertEqual(sizes_nothing(total), tuple(sorted(set(sizes))))

    def test_near_ones(self):
        for low in (1, 2, 9, GREAT):
            for gap in (1, 2, 3):
                sizes = [low + gap * k for k in range(11)]
                total = TieSum(2, [(weight_of(sizes), (1, 0))])
                self.assertEqual(sizes_nothing(total), tuple(sizes))
                for move in (1, -1):
                    moved = weight_of(sizes)
                    moved = (moved[0] + move,) + moved[1:]
                    want = tuple(size for size in range(low, low + 11 * gap) if poly_at(moved, size) == 0)
                    self.assertEqual(sizes_nothing(TieSum(2, [(moved, (1, 0))])), want)

    def test_no_sizes(self):
        for weight in [(1,), (-GREAT,), (0, 1), (5, 0, 1), (-2, 0, 1), (1, -3, 1), (-1, 2), (0, 0, 0, 4), (2, 1), (-3, 2),
                       weight_of([-4, -7]), weight_of([0, 0, -1]), (-10 ** 61 - 1, 0, 1), (1,) * 12, (-1, 0, 0, 0, 0, 0, 0, 0, 0, 0, 0, 3)]:
            self.assertEqual(sizes_nothing(TieSum(2, [(weight, (1, 0))])), ())
            self.assertNotEqual(sizes_nothing(TieSum(4, [(weight, (1, 0, 3, 2))])), None)

    def test_several_weights(self):
        draw = random.Random(3)
        for ends in (2, 4, 6):
            for _ in range(20):
                common = [draw.randint(1, 20) for _ in range(3)]
                terms = [(weight_of(common + draw.choices(range(1, 20), k=draw.randint(0, 4)), (draw.choice([-2, 1, 5]),)), row)
                         for row in matchings(ends)]
                self.against_papers(TieSum(ends, terms), 21)
                great = [GREAT + draw.randint(1, 3), 3 * GREAT]
                total = TieSum(ends, [(weight_of(great + draw.choices(range(20, 40), k=3)), row) for row in matchings(ends)])
                self.assertLessEqual(set(great), set(self.against_papers(total, 5)))

    def test_below_half_of_the_ends(self):
        """There a sum may be nothing though no weight is 0, and a size may do by weights where the ties do not."""
        total = TieSum.wired(crossing((0, 1, 2, 3, 4), (0, 1, 2, 3, 4)))
        self.assertEqual(sizes_nothing(total), (1, 2, 3, 4))
        self.assertEqual(sizes_nothing(total.times(weight_of([2, 6, 8]))), (1, 2, 3, 4, 6, 8))
        self.assertEqual(sizes_nothing(TieSum.of((1, 0, 3, 2, 5, 4)).times(weight_of([1, 2, 3, 7]))), (1, 2, 3, 7))
        self.assertEqual(sizes_nothing(TieSum(6, [(weight_of([2]), (1, 0, 3, 2, 5, 4))])), (2,))
        closed = TieSum.wired(crossing((0, 1, 2), (0, 1, 2))).closed()
        self.assertEqual((sizes_nothing(closed), sizes_nothing(closed.closed())), ((1, 2), (1, 2)))

    def test_without_ties(self):
        for ends in (2, 4, 6, 8, 10):
            self.assertIs(sizes_nothing(TieSum(ends, [])), None)
            self.assertIs(sizes_nothing(TieSum.of(matchings(ends)[0]).times([])), None)

    def test_how_many_integers(self):
        long = weight_of([3] * 11)
        self.assertEqual(len(long), 12)
        self.assertEqual(sizes_nothing(TieSum(2, [(long, (1, 0))])), (3,))
        self.assertEqual(sizes_nothing(TieSum(2, [(long + (0, 0), (1, 0))])), (3,))
        for more in (long + (1,), weight_of([3] * 12), (0,) * 12 + (1,), (1,) * 40):
            self.refused(TooMany("weights", 12), sizes_nothing, TieSum(2, [(more, (1, 0))]))
            self.refused(TooMany("weights", 12), sizes_nothing, TieSum(4, [((1,), (1, 0, 3, 2)), (more, (3, 2, 1, 0))]))

    def test_all_ties_of_ten_ends(self):
        draw = random.Random(4)
        sizes = [2, 3, 7, 8, 9] + [GREAT + 7 * k for k in range(6)]
        weight = weight_of(sizes)
        total = TieSum(10, [(poly_product(weight, (draw.choice([-3, 1, 2]),)), row) for row in matchings(10)])
        before = time.perf_counter()
        told = sizes_nothing(total)
        self.assertLess(time.perf_counter() - before, 5)
        self.assertEqual(told, tuple(sizes))

    def test_refused(self):
        for value in [Sum.of((1, 0)), (1, 0), "2 : 10 1", (((1,), (1, 0)),), TieSum, *ODD_VALUES]:
            self.refused(BadTieSum("total"), sizes_nothing, value)
