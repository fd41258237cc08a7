"""Ties against own walks from end to end."""

import random
from itertools import product

from fromsize.errors import BadTies, BadWiring, Misfit, TooMany
from fromsize.ties import is_ties, ties_back, ties_behind, ties_of, wiring_of
from fromsize.wirings import back, behind
from tests.own import NO_WIRINGS, ODD_VALUES, Case, drawn_row, rows_of
from tests.own_ties import NO_TIES, drawn_ties, matchings, own_behind, own_turned

ENDS = (2, 4, 6, 8, 10)


def some_ties(seed=1, drawn=20):
    """All ties of up to six ends, and drawn ones of eight and ten."""
    draw = random.Random(seed)
    return [row for ends in (2, 4, 6) for row in matchings(ends)] + [drawn_ties(draw, ends) for ends in (8, 10) for _ in range(drawn)]


class IsTiesTest(Case):
    def test_all_rows(self):
        for ends in range(0, 7):
            right = matchings(ends) if ends % 2 == 0 and ends > 0 else []
            told = [row for row in product(range(ends), repeat=ends) if is_ties(row)]
            self.assertEqual(told, right)
        for ends, many in zip(ENDS, (1, 3, 15, 105, 945)):
            rows = matchings(ends)
            self.assertEqual(len(rows), many)
            for row in rows:
                self.assertIs(is_ties(row), True)
                self.assertIs(is_ties(list(row)), True)

    def test_one_end_bent(self):
        """With one number exchanged, nothing is ties: the partners do not agree."""
        draw = random.Random(2)
        for ends in ENDS:
            row = drawn_ties(draw, ends)
            for at in range(ends):
                for bent in list(range(-2, ends + 3)) + [True, False, None, str(row[at]), float(row[at]), (row[at],), 10 ** 30]:
                    told = list(row)
                    told[at] = bent
                    self.assertIs(is_ties(told), type(bent) is int and bent == row[at])
                self.assertIs(is_ties(row[:at] + row[at + 1:]), False)

    def test_values_of_all_kinds(self):
        for value in NO_TIES + ODD_VALUES:
            self.assertIs(is_ties(value), False)
        self.assertIs(is_ties(value=[1, 0]), True)
        self.assertIs(is_ties(list(range(12))[::-1]), False)
        self.assertIs(is_ties(list(range(10))[::-1]), True)


class WiringsTest(Case):
    def test_there_and_back(self):
        for wires in range(1, 6):
            for row in rows_of(wires):
                ties = ties_of(row)
                self.assertIs(is_ties(ties), True)
                self.assertEqual([2 * wires - 1 - end for end in ties[:wires]], list(row))
                self.assertEqual((type(ties), wiring_of(ties)), (tuple, row))
                self.assertEqual(wiring_of(ties=list(ties_of(row=list(row)))), row)

    def test_ties_of_no_wiring(self):
        for ends in ENDS:
            rows = matchings(ends)
            wired = [ties_of(row) for row in rows_of(ends // 2)]
            self.assertEqual([row for row in rows if wiring_of(row) is not None], sorted(wired))

    def test_refused(self):
        for value in NO_WIRINGS + ODD_VALUES:
            self.refused(BadWiring("row"), ties_of, value)
        self.refused(TooMany("ends", 10), ties_of, (0, 1, 2, 3, 4, 5))
        self.refused(TooMany("ends", 10), ties_of, [5, 4, 3, 2, 1, 0])
        for value in NO_TIES + ODD_VALUES:
            self.refused(BadTies("ties"), wiring_of, value)
            self.refused(BadTies("ties"), ties_back, value)


class BehindTest(Case):
    def test_against_own_walks(self):
        for ends in (2, 4, 6):
            for one in matchings(ends):
                for other in matchings(ends):
                    self.assertEqual(ties_behind(one, other), own_behind(one, other))
        draw = random.Random(3)
        for ends in (8, 10):
            for _ in range(150):
                one, other = drawn_ties(draw, ends), drawn_ties(draw, ends)
                self.assertEqual(ties_behind(list(one), other), own_behind(one, other))
                self.assertEqual(ties_behind(other=list(other), one=one), own_behind(one, other))

    def test_loops(self):
        """All of the middle in one ring, in rings of two, and in none."""
        for half in range(1, 6):
            nest = tuple(range(2 * half))[::-1]
            for loops in range(half // 2 + 1):
                pairs = [k ^ 1 if k < 2 * loops else 2 * half - 1 - k for k in range(half)]
                row = pairs + [2 * half - 1 - k for k in pairs[::-1]]
                if all(row[row[k]] == k for k in range(2 * half)):
                    self.assertEqual(ties_behind(row, row), (tuple(row), loops))
                    self.assertEqual(ties_behind(nest, row), (tuple(row), 0))
        one, other = (1, 0, 3, 2, 9, 8, 7, 6, 5, 4), (9, 2, 1, 4, 3, 6, 5, 8, 7, 0)
        self.assertEqual(ties_behind(one, other), own_behind(one, other))
        ring, shifted = (3, 2, 1, 0, 7, 6, 5, 4), (1, 0, 3, 2, 5, 4, 7, 6)
        self.assertEqual(ties_behind(ring, shifted), ((3, 2, 1, 0, 5, 4, 7, 6), 1))
        self.assertEqual(ties_behind(shifted, shifted), ((1, 0, 3, 2, 5, 4, 7, 6), 2))

    def test_three(self):
        """Whichever two come first, there are the same ties, and as many loops in all."""
        draw = random.Random(4)
        for ends in ENDS:
            for _ in range(40):
                one, two, three = [drawn_ties(draw, ends) for _ in range(3)]
                first, loops = ties_behind(one, two)
                left, more = ties_behind(first, three)
                last, others = ties_behind(two, three)
                right, rest = ties_behind(one, last)
                self.assertEqual((left, loops + more), (right, others + rest))

    def test_turned_about(self):
        draw = random.Random(5)
        for row in some_ties():
            self.assertEqual(ties_back(row), own_turned(row))
            self.assertEqual(ties_back(ties=list(ties_back(row))), row)
        for ends in ENDS:
            for _ in range(30):
                one, other = drawn_ties(draw, ends), drawn_ties(draw, ends)
                ties, loops = ties_behind(one, other)
                self.assertEqual(ties_behind(ties_back(other), ties_back(one)), (ties_back(ties), loops))

    def test_wirings(self):
        draw = random.Random(6)
        for wires in range(1, 6):
            for _ in range(30):
                one, other = drawn_row(draw, wires), drawn_row(draw, wires)
                self.assertEqual(ties_behind(ties_of(one), ties_of(other)), (ties_of(behind(one, other)), 0))
                self.assertEqual(ties_back(ties_of(one)), ties_of(back(one)))

    def test_nothing_changes(self):
        one, other = [1, 0, 3, 2], [3, 2, 1, 0]
        ties_behind(one, other)
        ties_back(one)
        self.assertEqual((one, other), ([1, 0, 3, 2], [3, 2, 1, 0]))

    def test_refused(self):
        right = (1, 0, 3, 2)
        for value in NO_TIES + ODD_VALUES:
            self.refused(BadTies("one"), ties_behind, value, right)
            self.refused(BadTies("one"), ties_behind, value, value)
            self.refused(BadTies("other"), ties_behind, right, value)
        self.refused(BadTies("one"), ties_behind, (0, 1), (1, 0))
        for other in ((1, 0), (1, 0, 3, 2, 5, 4), tuple(range(10))[::-1]):
            self.refused(Misfit("ends"), ties_behind, right, other)
            self.refused(Misfit("ends"), ties_behind, list(other), right)
