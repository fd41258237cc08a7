"""Crossings, against exchanges done one by one."""

import random
from itertools import combinations

from fromsize.crossings import crossing, plain
from fromsize.errors import BadTops, BadWiring
from fromsize.sums import Sum
from tests.own import (GREAT, NO_WIRINGS, ODD_VALUES, Case, all_settings, as_dict, as_sum, drawn_row, drawn_tops,
                       is_nothing, own_crossing)


def all_tops(wires):
    return [tops for many in range(1, wires + 1) for tops in combinations(range(wires), many)]


def straight(wires):
    return tuple(range(wires))


class CrossingsTest(Case):
    def test_against_exchanges(self):
        draw = random.Random(1)
        for wires in range(1, 7):
            for tops in all_tops(wires):
                row = drawn_row(draw, wires)
                want = own_crossing(row, tops)
                self.assertEqual(crossing(row, tops), as_sum(wires, want))
                self.assertEqual(crossing(list(row), list(tops)), as_sum(wires, want))
                self.assertEqual(plain(row, tops), as_sum(wires, {told: 1 for told in want}))
                self.assertEqual(crossing(row, tops).weight(row), 1)

    def test_at_one_top(self):
        for wires in range(1, 7):
            for top in range(wires):
                row = straight(wires)[::-1]
                self.assertEqual(crossing(row, [top]), Sum.of(row))
                self.assertEqual(plain(tops=(top,), row=row), Sum.of(row))

    def test_nothing_is_changed(self):
        row, tops = [2, 0, 1], [0, 2]
        self.assertEqual(str(crossing(tops=tops, row=row)), "3 : -1 102 / 1 201")
        self.assertEqual((row, tops), ([2, 0, 1], [0, 2]))

    def test_refused(self):
        for value in NO_WIRINGS + ODD_VALUES:
            for function in (crossing, plain):
                self.refused(BadWiring("row"), function, value, [0])
                self.refused(BadWiring("row"), function, value, None)
        bad = [[], (), [1, 0], [0, 0], [0, 1, 1], [3], [0, 3], [0, 1, 2, 3], [-1], [-1, 0], [True], [0, True], [False, 1],
               [0, 2, 1], "0", "01", 0, 1, None, [None], ["0"], [0.0], [[0]], {0}, {0: 1}, range(2), [GREAT], [0] * 9]
        for tops in bad + ODD_VALUES:
            for function in (crossing, plain):
                self.refused(BadTops("tops"), function, [1, 2, 0], tops)


class FactsTest(Case):
    def test_two_tops_with_one_integer(self):
        draw = random.Random(2)
        for wires in range(2, 5):
            for tops in all_tops(wires):
                total = crossing(drawn_row(draw, wires), tops)
                for setting in all_settings(wires, 3):
                    if len({setting[top] for top in tops}) < len(tops):
                        self.assertEqual({total.led(setting, other) for other in all_settings(wires, 3)}, {0})

    def test_nothing_below_and_something_at_its_tops(self):
        draw = random.Random(3)
        for wires in range(1, 6):
            for tops in all_tops(wires):
                total = crossing(drawn_row(draw, wires), tops)
                for size in range(1, wires + 1):
                    self.assertIs(is_nothing(total.terms, wires, size), size < len(tops))

    def test_behind_and_ahead(self):
        draw = random.Random(4)
        for wires in range(1, 7):
            for many in range(1, wires + 1):
                row, other, tops = drawn_row(draw, wires), drawn_row(draw, wires), drawn_tops(draw, wires, many)
                total, single = crossing(row, tops), Sum.of(other)
                self.assertEqual(total * single, crossing([other[bottom] for bottom in row], tops))
                ahead = sorted(top for top in range(wires) if other[top] in tops)
                self.assertEqual(single * total, crossing([row[bottom] for bottom in other], ahead))

    def test_behind_itself(self):
        for wires in range(1, 7):
            for tops in all_tops(wires):
                if len(tops) <= 5:
                    total = crossing(straight(wires), tops)
                    many = 1
                    for k in range(2, len(tops) + 1):
                        many *= k
                    self.assertEqual(total * total, total.times(many))

    def test_plain_and_crossing_with_two_tops_in_common(self):
        for wires in range(2, 6):
            for one in all_tops(wires):
                for other in all_tops(wires):
                    if len(one) + len(other) <= 6 and len(set(one) & set(other)) >= 2:
                        left, right = plain(straight(wires), one), crossing(straight(wires), other)
                        self.assertEqual(len(left * right), 0)
                        self.assertEqual(len(right * left), 0)

    def test_a_top_left_out(self):
        draw = random.Random(5)
        for wires in range(2, 7):
            for tops in all_tops(wires):
                if len(tops) > 1:
                    row, out = drawn_row(draw, wires), draw.choice(tops)
                    others = [top for top in tops if top != out]
                    want = crossing(row, others)
                    for top in others:
                        new = list(row)
                        new[top], new[out] = new[out], new[top]
                        want = want - crossing(new, others)
                    self.assertEqual(crossing(row, tops), want)

    def test_closed(self):
        for wires in range(2, 7):
            plain_part, looped = crossing(straight(wires), straight(wires)).closed()
            shorter = crossing(straight(wires - 1), straight(wires - 1))
            self.assertEqual(looped, shorter)
            self.assertEqual(plain_part, shorter.times(1 - wires))
            self.assertEqual(len(plain_part + looped.times(wires - 1)), 0)

    def test_unlike_integers_at_its_tops(self):
        for wires in range(1, 5):
            for tops in all_tops(wires):
                setting = [tops.index(top) if top in tops else 0 for top in range(wires)]
                total = crossing(straight(wires), tops)
                told = [total.led(setting, other) for other in all_settings(wires, len(tops))]
                self.assertEqual(sorted(number for number in told if number), sorted(as_dict(total).values()))
