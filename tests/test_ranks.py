"""The rank of rows."""

import random
from fractions import Fraction

from fromsize.errors import BadNumber
from fromsize.ranks import rank
from tests.own import GREAT, ODD_VALUES, Case


def own_rank(rows):
    """The rank by fractions, a column at a time."""
    left = [[Fraction(entry) for entry in row] for row in rows]
    found = 0
    for column in range(len(left[0]) if left else 0):
        head = next((row for row in left if row[column] != 0), None)
        if head is not None:
            found += 1
            left.remove(head)
            left = [[entry - row[column] / head[column] * other for entry, other in zip(row, head)] for row in left]
    return found


def drawn_rows(draw, great):
    """Rows that are made of a few ones, so that many of them depend on others."""
    many, long, made = draw.randint(1, 7), draw.randint(1, 7), draw.randint(0, 5)
    heads = [[draw.randint(-great, great) for _ in range(long)] for _ in range(made)]
    rows = []
    for _ in range(many):
        weights = [draw.randint(-2, 2) for _ in heads]
        rows.append([sum(weight * head[at] for weight, head in zip(weights, heads)) for at in range(long)])
    return rows


class RankTest(Case):
    def test_edges(self):
        for rows in ([], (), [[]], [[], ()], [[0]], [[0, 0], [0, 0]], ((0,), (0,))):
            self.assertEqual(rank(rows), 0)
        self.assertEqual(rank([[5]]), 1)
        self.assertEqual(rank([[-5], [5], [0]]), 1)
        self.assertEqual(rank([[1, 2], [1, 2]]), 1)
        self.assertEqual(rank([[0, 0, 1], [0, 0, 2]]), 1)
        self.assertEqual(rank([[0, 0], [0, 3], [0, 5], [0, 0]]), 1)
        self.assertEqual(rank([[6, 10, 15], [12, 20, 30]]), 1)
        self.assertEqual(rank([[6, 10, 15], [12, 20, 31]]), 2)
        self.assertEqual(rank([[0, 1], [1, 0]]), 2)

    def test_great_weights(self):
        rows = [[GREAT, GREAT + 1], [GREAT - 1, GREAT]]
        self.assertEqual(rank(rows), 2)
        self.assertEqual(rank([[GREAT, 2 * GREAT], [3 * GREAT, 6 * GREAT]]), 1)
        self.assertEqual(rank([[10 ** 5000, 1], [10 ** 10000, 10 ** 5000]]), 1)
        # A number that is 0 beside many primes is still none.
        self.assertEqual(rank([[2 ** 61 - 1, 0], [0, (2 ** 31 - 1) * (2 ** 61 - 1) * 1000003]]), 2)

    def test_against_fractions(self):
        draw = random.Random(4)
        for number in range(150):
            rows = drawn_rows(draw, (1, 9, GREAT)[number % 3])
            want = own_rank(rows)
            self.assertEqual(rank(rows), want, rows)
            mixed = [tuple(row) for row in draw.sample(rows, len(rows))]
            self.assertEqual(rank(mixed), want)
            self.assertEqual(rank([[-GREAT * entry for entry in row] for row in rows]), want)
            self.assertEqual(rank([list(column) for column in zip(*rows)]), want)
            more = [[entry + 3 * other for entry, other in zip(row, rows[0])] for row in rows[1:]]
            self.assertEqual(rank([rows[0]] + more), want)
            self.assertEqual(rank(rows + rows), want)

    def test_many_rows(self):
        self.assertEqual(rank([[int(at == place) for at in range(60)] for place in range(60)]), 60)
        self.assertEqual(rank([[one * other for other in range(60)] for one in range(60)]), 1)
        self.assertEqual(rank([[one + other for other in range(60)] for one in range(60)]), 2)

    def test_the_rows_stay(self):
        rows = [[2, 4], [0, 0], [3, 7]]
        self.assertEqual(rank(rows=rows), 2)
        self.assertEqual(rows, [[2, 4], [0, 0], [3, 7]])

    def test_refused(self):
        bad = [[[1], [1, 2]], [[1, 2], []], [[1, True]], [[True]], [[1], None], [1, 2], [[1], "1"], [["1"]], [[1.0]],
               [[[1]]], "ab", [[1], {1: 2}], {1: [2]}, 3, [None]]
        for value in bad + ODD_VALUES:
            self.refused(BadNumber("rows"), rank, value)
