"""The examples of the interface, as they are printed there, and what is told in words beside them."""

import importlib
import os
import unittest

from fromsize import errors
from fromsize.bases import in_base, in_turn
from fromsize.check_written import shows_written
from fromsize.classes import class_sum, difference
from fromsize.crossings import crossing
from fromsize.falls import is_kept, settings_of
from fromsize.formulas import Formula
from fromsize.led import sum_of
from fromsize.makings import making_of
from fromsize.measures import Measure, measure_of, measure_of_ties
from fromsize.sums import Sum
from fromsize.tie_sums import TieSum
from fromsize.values import value_of
from fromsize.wirings import led
from fromsize.written import Written, written
from tests.own import own_falls, own_rounds, rows_of
from tests.own_formulas import own_over, own_product, own_trace
from tests.test_interface import names_of

HERE = os.path.dirname(os.path.abspath(__file__))


def read_examples():
    """Triples of a module, what is asked, and what is printed: a value, an error, or None for an assignment."""
    found, module = [], None
    with open(os.path.join(HERE, "examples.txt"), encoding="ascii") as file:
        for line in file.read().splitlines():
            if line.startswith("## "):
                module = line[3:]
            elif line.startswith(">>> "):
                found.append([module, line[4:], None])
            else:
                found[-1][2] = line
    return found


class ExamplesTest(unittest.TestCase):
    def setUp(self):
        self.names = {name: value for name, value in vars(errors).items() if isinstance(value, type)}

    def take(self, module):
        """The names that the interface lists for the module."""
        held = importlib.import_module("fromsize." + module)
        self.names.update({name: getattr(held, name) for name in names_of(module)})

    def test_examples(self):
        told = read_examples()
        self.assertEqual(len([1 for _, _, printed in told if printed is not None]), 140)
        for at, (module, asked, printed) in enumerate(told):
            if at == 0 or module != told[at - 1][0]:
                self.take(module)
            if printed is None:
                exec(asked, self.names)
            elif printed.startswith("raises "):
                self.ask_error(asked, eval(printed[len("raises "):], self.names))
            else:
                self.assertEqual(repr(eval(asked, self.names)), printed, asked)

    def ask_error(self, asked, error):
        with self.assertRaises(type(error)) as held:
            eval(asked, self.names)
        self.assertIs(type(held.exception), type(error), asked)
        self.assertEqual(vars(held.exception), vars(error), asked)


class WordsTest(unittest.TestCase):
    def test_what_leads_the_two_settings(self):
        tops, bottoms = settings_of([2, 0, 3, 1])
        leading = [row for row in rows_of(4) if led(row, tops) == bottoms]
        self.assertEqual(leading, [(2, 0, 3, 1), (2, 1, 3, 0), (3, 0, 2, 1), (3, 1, 2, 0)])

    def test_a_wiring_of_four_wires(self):
        self.assertEqual([fall for fall in own_falls((3, 1, 2, 0)) if len(fall) == 3], [(0, 1, 3), (0, 2, 3)])
        left = [row for _, row in crossing((3, 1, 2, 0), (0, 1, 3)).terms if not is_kept(row, 2)]
        self.assertEqual(left, [(0, 3, 2, 1), (1, 3, 2, 0), (3, 0, 2, 1), (3, 1, 2, 0)])

    def test_one_crossing_told_by_two_wirings(self):
        over = Sum.of((2, 1, 0))
        self.assertEqual(crossing((0, 1, 2), (0, 1, 2)), crossing((2, 1, 0), (0, 1, 2)).times(-1))
        steps = [(1, (0, 1, 2), (0, 1, 2)), (2, (2, 1, 0), (0, 1, 2))]
        self.assertTrue(shows_written(over, 2, Written(written(over, 2), steps)))

    def test_lengths_with_at_most_three_rounds(self):
        told = [[6], [5, 1], [4, 2], [3, 3], [4, 1, 1], [3, 2, 1], [2, 2, 2]]
        want = [row for row in rows_of(6) if len(own_rounds(row)) <= 3]
        self.assertEqual(sorted(row for lengths in told for _, row in class_sum(6, lengths).terms), want)

    def test_a_difference(self):
        self.assertEqual(difference(Sum.of((1, 0, 2)), 1), Sum.of((2, 0, 1)) - Sum.of((1, 2, 0)))

    def test_a_step_and_its_making(self):
        """With 201 at the tops 0 and 1 the words are * b and a, which row goes through as 10."""
        apart = Formula.read("table : 1 a b / -1 b a")
        self.assertEqual(str(sum_of(apart)), "3 : 1 120 / -1 201")
        self.assertEqual(making_of((-1, (2, 0, 1), (0, 1)), ("a", "b", "*")), (1, [], [["*", "b"], ["a"]]))
        self.assertEqual(making_of((1, (0, 2, 1, 3), (0, 3)), ("a", "b", "c", "*")), (1, [["b", "c"]], [["a"], ["*"]]))

    def test_a_table_less_itself_turned_over(self):
        even = Formula.read("table : 1 a / -1 a'")
        for table in ([[1, 2], [3, 4]], [[0, 7], [-5, 9]]):
            number = table[0][1] - table[1][0]
            self.assertEqual(value_of(even, {"a": table}, 2), ((0, number), (-number, 0)))

    def test_measures(self):
        """cross is tr a tr b - tr a b, ties the trace of a and b turned over; 1 2 0 and 2 0 1 multiply in either order."""
        one, other, third = [[1, 2], [3, 4]], [[0, -1], [5, 2]], [[2, 1], [7, 3]]
        cross = measure_of(Sum.read("2 : 1 01 / -1 10"), 2)
        self.assertEqual(cross.worth([one, other]), own_trace(one) * own_trace(other) - own_trace(own_product(one, other)))
        ties = measure_of_ties(TieSum.of([1, 0, 3, 2]), 2)
        self.assertEqual(ties.worth([one, other]), own_trace(own_product(one, own_over(other))))
        self.assertEqual(measure_of(Sum.of([1, 2, 0]), 2).worth([one, other, third]), own_trace(own_product(own_product(one, other), third)))
        self.assertEqual(measure_of(Sum.of([2, 0, 1]), 2).worth([one, other, third]), own_trace(own_product(own_product(one, third), other)))

    def test_units_in_a_base_and_turned(self):
        self.assertEqual(in_base([[0, 0], [1, 0]], 0, 1)[0][0], 1)
        turned = in_turn([[0, 1], [0, 0]], (0, 1))
        self.assertEqual((turned[0][1], turned[1][0]), (9, -16))
        apart = Measure.read("2 1 : 1 01 / -1 10")
        self.assertEqual((apart.worth([turned]), apart.worth([in_turn([[0, 1], [0, 0]], (0,))])), (25, -1))


if __name__ == "__main__":
    unittest.main()
