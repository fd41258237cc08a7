"""Wirings, against a walk of each wire."""

import random

from fromsize.errors import BadSetting, BadWiring, Misfit, TooMany
from fromsize.wirings import back, behind, beside, is_wiring, led, rounds, sign
from tests.own import (GREAT, NO_WIRINGS, ODD_VALUES, Case, drawn_row, own_rounds, own_sign, rows_of, some_rows)


class WalksTest(Case):
    def test_one_wiring(self):
        for row in some_rows():
            self.assertEqual(sign(row), own_sign(row))
            crossed = [1 for one in range(len(row)) for other in range(one + 1, len(row)) if row[one] > row[other]]
            self.assertEqual(sign(row), (-1) ** len(crossed))
            self.assertEqual(rounds(list(row)), own_rounds(row))
            turned = back(row)
            self.assertEqual([turned[row[top]] for top in range(len(row))], list(range(len(row))))
            setting = [7 * top % 4 for top in range(len(row))]
            bottoms = led(row, setting)
            self.assertEqual([bottoms[row[top]] for top in range(len(row))], setting)

    def test_two_wirings(self):
        for one in some_rows(2, 12):
            for other in some_rows(3, 12):
                if len(one) == len(other):
                    told = behind(one, list(other))
                    self.assertEqual([told[top] for top in range(len(one))], [other[one[top]] for top in range(len(one))])
                if len(one) + len(other) <= 6:
                    told = beside(list(one), other)
                    self.assertEqual(told[:len(one)], one)
                    self.assertEqual([bottom - len(one) for bottom in told[len(one):]], list(other))

    def test_kinds_of_answers(self):
        for row in ([1, 0, 2], (1, 0, 2)):
            for told in (back(row), behind(row, row), beside(row, row), rounds(row), rounds(row)[0], led(row, [1, 2, 3])):
                self.assertIs(type(told), tuple)
            self.assertIs(is_wiring(row), True)
        row, setting = [2, 0, 1], [4, GREAT, 0]
        self.assertEqual(led(row, setting), (GREAT, 0, 4))
        self.assertEqual((row, setting), ([2, 0, 1], [4, GREAT, 0]))

    def test_by_name(self):
        self.assertEqual(behind(other=[0, 2, 1], one=(1, 2, 0)), (2, 1, 0))
        self.assertEqual(beside(other=[0], one=(1, 0)), (1, 0, 2))
        self.assertEqual(led(setting=[5, 6], row=[1, 0]), (6, 5))
        self.assertEqual((back(row=[0]), sign(row=[0]), rounds(row=[0]), is_wiring(value=[0])), ((0,), 1, ((0,),), True))


class FactsTest(Case):
    def test_signs(self):
        for one in some_rows(5, 10):
            self.assertEqual(sign(back(one)), sign(one))
            self.assertEqual(sign(one) == 1, (len(one) - len(rounds(one))) % 2 == 0)
            for other in some_rows(6, 6):
                if len(one) == len(other):
                    self.assertEqual(sign(behind(one, other)), sign(one) * sign(other))
                if len(one) + len(other) <= 6:
                    self.assertEqual(sign(beside(one, other)), sign(one) * sign(other))

    def test_rounds_turned_about(self):
        for row in some_rows():
            turned = sorted((walk[0],) + walk[1:][::-1] for walk in rounds(row))
            self.assertEqual(rounds(back(row)), tuple(turned))

    def test_rounds_between(self):
        draw = random.Random(7)
        for row in some_rows():
            between = drawn_row(draw, len(row))
            told = behind(behind(back(between), row), between)
            walks = []
            for walk in rounds(row):
                new = [between[k] for k in walk]
                least = new.index(min(new))
                walks.append(tuple(new[least:] + new[:least]))
            self.assertEqual(rounds(told), tuple(sorted(walks)))

    def test_three_behind_one_another(self):
        for wires in (1, 2, 3):
            for one in rows_of(wires):
                for two in rows_of(wires):
                    for three in rows_of(wires):
                        self.assertEqual(behind(behind(one, two), three), behind(one, behind(two, three)))
        draw = random.Random(8)
        for wires in (4, 5, 6):
            for _ in range(60):
                one, two, three = [drawn_row(draw, wires) for _ in range(3)]
                self.assertEqual(behind(behind(one, two), three), behind(one, behind(two, three)))
                self.assertEqual(back(behind(one, two)), behind(back(two), back(one)))
                setting = [draw.randint(0, 9) for _ in range(wires)]
                self.assertEqual(led(behind(one, two), setting), led(two, led(one, setting)))


class RefusedTest(Case):
    def test_is_wiring(self):
        for value in [*NO_WIRINGS, *ODD_VALUES, [0] * 100000]:
            self.assertIs(is_wiring(value), False)
        for row in some_rows():
            self.assertIs(is_wiring(row), True)
            self.assertIs(is_wiring(list(row)), True)

    def test_what_is_no_wiring(self):
        for value in [*NO_WIRINGS, *ODD_VALUES]:
            for function in (back, sign, rounds):
                self.refused(BadWiring("row"), function, value)
            self.refused(BadWiring("row"), led, value, [0, 1])
            self.refused(BadWiring("row"), led, value, None)
            for function in (behind, beside):
                self.refused(BadWiring("one"), function, value, [0, 1])
                self.refused(BadWiring("other"), function, [0, 1], value)
                self.refused(BadWiring("one"), function, value, value)
                self.refused(BadWiring("other"), function, other=value, one=[0, 1, 2, 3, 4, 5])

    def test_what_does_not_fit(self):
        for one in range(1, 7):
            for other in range(1, 7):
                rows = [list(range(one)), list(range(other))]
                if one != other:
                    self.refused(Misfit("wires"), behind, *rows)
                if one + other > 6:
                    self.refused(TooMany("wires", 6), beside, *rows)
                else:
                    self.assertEqual(beside(*rows), tuple(range(one + other)))

    def test_what_is_no_setting(self):
        bad = [[5, 0], [1, 2, 3, 4], [], [0, 0, -1], [0, True, 0], (0, 1, None), "012", None, [0, 0, "0"], [0, [1], 2], 3]
        for setting in bad + ODD_VALUES:
            self.refused(BadSetting("setting"), led, (1, 2, 0), setting)
