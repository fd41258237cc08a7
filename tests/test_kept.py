"""Kept wirings, against own longest falls."""

import random

from fromsize.errors import BadNumber, TooMany
from fromsize.kept import kept, kept_many, left_over
from fromsize.sums import Sum
from fromsize.written import written
from tests.own import (GREAT, NO_SIZES, ODD_VALUES, Case, added, as_dict, is_nothing, own_longest, rows_of, scaled,
                       sizes_of)

NO_WIRES = [0, 7, -1, GREAT, True, False, None, "3", [3], (1, 2), 3.0]


class KeptTest(Case):
    def test_against_own_falls(self):
        for wires in range(1, 7):
            longest = {row: own_longest(row) for row in rows_of(wires)}
            for size in [*range(1, 8), GREAT]:
                want = tuple(row for row in rows_of(wires) if longest[row] <= size)
                self.assertEqual(kept(wires, size), want)
                self.assertEqual(kept_many(wires, size), len(want))
                self.assertEqual(kept(wires, size), tuple(sorted(kept(wires, size))))

    def test_facts(self):
        self.assertEqual([kept_many(wires, 1) for wires in range(1, 7)], [1] * 6)
        self.assertEqual([kept_many(wires, 2) for wires in range(1, 7)], [1, 2, 5, 14, 42, 132])
        self.assertEqual([kept_many(wires, wires - 1) for wires in range(2, 7)], [1, 5, 23, 119, 719])
        self.assertEqual([kept_many(wires, wires) for wires in range(1, 7)], [1, 2, 6, 24, 120, 720])
        self.assertEqual([kept_many(wires, GREAT) for wires in range(1, 7)], [1, 2, 6, 24, 120, 720])
        for wires in range(1, 7):
            for size in range(1, 6):
                rows = kept(wires, size)
                turned = [tuple(row.index(bottom) for bottom in range(wires)) for row in rows]
                self.assertEqual(tuple(sorted(turned)), rows)
                sides = [tuple(wires - 1 - bottom for bottom in row[::-1]) for row in rows]
                self.assertEqual(tuple(sorted(sides)), rows)

    def test_by_name(self):
        self.assertEqual(kept(size=1, wires=2), ((0, 1),))
        self.assertEqual(kept_many(size=1, wires=2), 1)
        self.assertEqual(str(left_over(size=1, wires=2)[0]), "2 : -1 01 / 1 10")

    def test_refused(self):
        for function in (kept, kept_many, left_over):
            for wires in NO_WIRES + ODD_VALUES:
                self.refused(BadNumber("wires"), function, wires, 2)
                self.refused(BadNumber("wires"), function, wires, 0)
            for size in NO_SIZES + ODD_VALUES:
                for wires in (1, 5, 6):
                    self.refused(BadNumber("size"), function, wires, size)
        for size in (1, 2, 6, GREAT):
            self.refused(TooMany("wires", 5), left_over, 6, size)


class LeftOverTest(Case):
    def test_against_the_writings(self):
        for wires in range(1, 6):
            for size in sizes_of(wires):
                rows = [row for row in rows_of(wires) if own_longest(row) > size]
                told = left_over(wires, size)
                self.assertIs(type(told), tuple)
                self.assertEqual(len(told), len(rows))
                for row, total in zip(rows, told):
                    want = added({row: 1}, scaled(as_dict(written(Sum.of(row), size)), -1))
                    self.assertEqual(as_dict(total), want)
                    self.assertEqual([other for _, other in total.terms if own_longest(other) > size], [row])

    def test_all_are_nothing(self):
        for wires in range(1, 6):
            for size in range(1, wires):
                for total in left_over(wires, size)[::7 if wires == 5 else 1]:
                    self.assertTrue(is_nothing(total.terms, wires, size))
                    self.assertFalse(is_nothing(total.terms, wires, wires))

    def test_each_sum_that_is_nothing(self):
        """It is a sum of these in just one way, each as often as it has its wiring."""
        draw = random.Random(1)
        for wires in range(2, 6):
            for size in range(1, wires):
                over = left_over(wires, size)
                weights = [draw.randint(-3, 3) for _ in over]
                total = Sum(wires, [])
                for weight, one in zip(weights, over):
                    total = total + one.times(weight)
                self.assertEqual(len(written(total, size)), 0)
                rows = [row for row in rows_of(wires) if own_longest(row) > size]
                self.assertEqual([total.weight(row) for row in rows], weights)
