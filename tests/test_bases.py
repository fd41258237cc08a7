"""Tables in other bases, turned and mirrored, against products of the test's own."""

import random

from fromsize.bases import in_base, in_turn
from fromsize.errors import BadNumber, BadTable
from tests.own import GREAT, ODD_VALUES, Case
from tests.own_formulas import drawn_table, own_over, own_product, own_trace
from tests.own_measures import base_table, turn_table

NO_TABLES = [[], (), [[]], [[1, 2]], [[1], [2]], [[1, 2], [3]], [[1, 2], [3, True]], [[1, 2], [3, None]], [1], [[1, 2], 3], "1",
             [["1"]], [[1.0]], [[[1]]], {0: [1]}, [{0: 1}], [(1, 2), [3, 4], [5, 6]], [[False]], None, 1, *ODD_VALUES]


def rows(table):
    return tuple(tuple(row) for row in table)


class BasesTest(Case):
    def test_in_base(self):
        draw = random.Random(1)
        for size in range(2, 6):
            for row in range(size):
                for other in range(size):
                    if row != other:
                        for great in (3, GREAT):
                            table = drawn_table(draw, size, great)
                            one, back = base_table(size, row, other)
                            want = own_product(own_product(one, table), back)
                            self.assertEqual(in_base(table, row, other), rows(want))
                            self.assertEqual(in_base(other=other, row=row, table=rows(table)), rows(want))
                            self.assertEqual(own_trace(in_base(table, row, other)), own_trace(table))

    def test_in_turn(self):
        draw = random.Random(2)
        for size in range(1, 6):
            axes = [(k,) for k in range(size)] + [(one, other) for other in range(size) for one in range(other)]
            for told in axes:
                for great in (3, GREAT):
                    table = drawn_table(draw, size, great)
                    turn = turn_table(size, told)
                    want = own_product(own_product(turn, table), own_over(turn))
                    self.assertEqual(in_turn(table, told), rows(want))
                    self.assertEqual(in_turn(axes=list(told), table=rows(table)), rows(want))
                    factor = 1 if len(told) == 1 else 25
                    self.assertEqual(own_trace(in_turn(table, told)), factor * own_trace(table))

    def test_products_go_along(self):
        draw = random.Random(3)
        one, other = drawn_table(draw, 3), drawn_table(draw, 3)
        self.assertEqual(rows(own_product(in_base(one, 0, 2), in_base(other, 0, 2))), in_base(own_product(one, other), 0, 2))
        told = own_product(in_turn(one, (0, 2)), in_turn(own_over(other), (0, 2)))
        self.assertEqual(told, [[25 * entry for entry in row] for row in in_turn(own_product(one, own_over(other)), (0, 2))])
        table = drawn_table(draw, 4)
        self.assertEqual(in_turn(in_turn(table, [2]), [2]), rows(table))

    def test_what_is_passed_stays(self):
        table = [[1, 2], [3, 4]]
        in_base(table, 0, 1)
        in_turn(table, [0, 1])
        in_turn(table, [1])
        self.assertEqual(table, [[1, 2], [3, 4]])

    def test_a_great_table(self):
        draw = random.Random(4)
        table = drawn_table(draw, 60)
        self.assertEqual(own_trace(in_base(table, 3, 59)), own_trace(table))
        self.assertEqual(own_trace(in_turn(table, (3, 59))), 25 * own_trace(table))

    def test_refused(self):
        table = [[1, 2], [3, 4]]
        for value in NO_TABLES:
            self.refused(BadTable("table"), in_base, value, 0, 1)
            self.refused(BadTable("table"), in_base, value, None, None)
            self.refused(BadTable("table"), in_turn, value, [0])
            self.refused(BadTable("table"), in_turn, value, None)
        for row in [-1, 2, GREAT, True, False, None, "0", 0.0, [0], *ODD_VALUES]:
            self.refused(BadNumber("row"), in_base, table, row, 1)
            self.refused(BadNumber("row"), in_base, table, row, None)
            self.refused(BadNumber("other"), in_base, table, 0, row)
        self.refused(BadNumber("other"), in_base, table, 1, 1)
        self.refused(BadNumber("other"), in_base, table, 0, 0)
        self.refused(BadNumber("other"), in_base, [[5]], 0, 0)
        self.refused(BadNumber("row"), in_base, [[5]], 1, 0)
        for axes in [[], (), [2], [-1], [0, 0], [1, 0], [0, 2], [-1, 0], [0, 1, 1], [0, 1, 2], [True], [0, True], [None], ["0"], [0.0], "0",
                     0, None, {0}, {0: 1}, [[0]], [GREAT], range(1), *ODD_VALUES]:
            self.refused(BadNumber("axes"), in_turn, table, axes)
        self.refused(BadNumber("axes"), in_turn, [[5]], [0, 1])
        self.assertEqual(in_turn([[5]], [0]), ((5,),))
