"""Falls, against a trial of all rows of tops."""

import math

from fromsize.errors import BadNumber, BadWiring
from fromsize.falls import colours, is_kept, longest_fall, settings_of
from fromsize.wirings import back, beside
from tests.own import (GREAT, NO_SIZES, NO_WIRINGS, ODD_VALUES, Case, all_settings, is_fall, own_colours, own_longest,
                       rows_of, some_rows, walked)


class FallsTest(Case):
    def test_against_all_rows_of_tops(self):
        for row in some_rows():
            told = own_colours(row)
            self.assertEqual(colours(list(row)), told)
            self.assertEqual(settings_of(row), (told, walked(row, told)))
            fall = longest_fall(row)
            self.assertTrue(is_fall(row, fall))
            self.assertEqual(sorted(set(fall)), list(fall))
            self.assertEqual(len(fall), own_longest(row))
            self.assertEqual(longest_fall(list(row)), fall)
            for size in [*range(1, 8), GREAT]:
                self.assertIs(is_kept(row, size), own_longest(row) <= size)

    def test_kinds_of_answers(self):
        row = [2, 0, 3, 1]
        for told in (colours(row), longest_fall(row), settings_of(row), *settings_of(row)):
            self.assertIs(type(told), tuple)
        self.assertEqual(row, [2, 0, 3, 1])
        self.assertEqual((colours(row=[0]), longest_fall(row=[0]), settings_of(row=[0])), ((0,), (0,), ((0,), (0,))))
        self.assertIs(is_kept(size=1, row=[0, 1]), True)

    def test_facts(self):
        for row in some_rows():
            told, fall = colours(row), longest_fall(row)
            self.assertEqual(sorted(set(told)), list(range(len(fall))))
            for size in range(1, 8):
                small = all(k < size for setting in settings_of(row) for k in setting)
                self.assertIs(is_kept(row, size), small)
                self.assertIs(is_kept(back(row), size), is_kept(row, size))
            self.assertTrue(is_fall(back(row), sorted(row[top] for top in fall)))
            self.assertIs(is_kept(row, len(row)), True)
            self.assertIs(is_kept(row, 1), row == tuple(range(len(row))))
            for other in ((0,), (1, 0)):
                if len(row) + len(other) <= 6:
                    self.assertEqual(own_longest(beside(row, other)), max(len(fall), own_longest(other)))

    def test_the_earliest_of_all_that_lead(self):
        for wires, sizes in ((1, (1, 2)), (2, (1, 2, 3)), (3, (1, 2, 3, 4)), (4, (1, 2, 3, 4)), (5, (1, 2, 3))):
            for size in sizes:
                earliest = {}
                for tops in all_settings(wires, size):
                    for row in rows_of(wires):
                        earliest.setdefault((tops, walked(row, tops)), row)
                want = set(earliest.values())
                self.assertEqual({row for row in rows_of(wires) if is_kept(row, size)}, want)

    def test_how_many_lead_the_two_settings(self):
        for row in some_rows(3, 3):
            tops, bottoms = settings_of(row)
            leading = [other for other in rows_of(len(row)) if walked(other, tops) == bottoms]
            self.assertEqual(leading[0], row)
            self.assertEqual(len(leading), math.prod(math.factorial(tops.count(k)) for k in set(tops)))

    def test_refused(self):
        for value in [*NO_WIRINGS, *ODD_VALUES]:
            for function in (colours, longest_fall, settings_of):
                self.refused(BadWiring("row"), function, value)
            self.refused(BadWiring("row"), is_kept, value, 1)
            self.refused(BadWiring("row"), is_kept, value, 0)
        for size in [*NO_SIZES, *ODD_VALUES]:
            self.refused(BadNumber("size"), is_kept, [0, 1], size)
