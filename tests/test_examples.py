"""The examples of the interface, as they are printed there, and what is told in words beside them."""

import importlib
import os
import unittest

from fromsize import errors
from fromsize.check_written import shows_written
from fromsize.classes import class_sum, difference
from fromsize.crossings import crossing
from fromsize.falls import is_kept, settings_of
from fromsize.sums import Sum
from fromsize.wirings import led
from fromsize.written import Written, written
from tests.own import own_falls, own_rounds, rows_of
from tests.test_interface import names_of

HERE = os.path.dirname(os.path.abspath(__file__))


def read_examples():
    """Triples of a module, what is asked, and what is printed: a value, an error, or None for an assignment."""
    found, module = [], None
    with open(os.path.join(HERE, "examples.txt"), encoding="ascii") as file:
        for line in file.read().splitlines():
            if line.startswith("## "):
                module = line[3:]
            elif line.startswith(">>> "):
                found.append([module, line[4:], None])
            else:
                found[-1][2] = line
    return found


class ExamplesTest(unittest.TestCase):
    def setUp(self):
        self.names = {name: value for name, value in vars(errors).items() if isinstance(value, type)}

    def take(self, module):
        """The names that the interface lists for the module."""
        held = importlib.import_module("fromsize." + module)
        self.names.update({name: getattr(held, name) for name in names_of(module)})

    def test_examples(self):
        told = read_examples()
        self.assertEqual(len([1 for _, _, printed in told if printed is not None]), 140)
        for at, (module, asked, printed) in enumerate(told):
            if at == 0 or module != told[at - 1][0]:
                self.take(module)
            if printed is None:
                exec(asked, self.names)
            elif printed.startswith("raises "):
                self.ask_error(asked, eval(printed[len("raises "):], self.names))
            else:
                self.assertEqual(repr(eval(asked, self.names)), printed, asked)

    def ask_error(self, asked, error):
        with self.assertRaises(type(error)) as held:
            eval(asked, self.names)
        self.assertIs(type(held.exception), type(error), asked)
        self.assertEqual(vars(held.exception), vars(error), asked)


class WordsTest(unittest.TestCase):
    def test_what_leads_the_two_settings(self):
        tops, bottoms = settings_of([2, 0, 3, 1])
        leading = [row for row in rows_of(4) if led(row, tops) == bottoms]
        self.assertEqual(leading, [(2, 0, 3, 1), (2, 1, 3, 0), (3, 0, 2, 1), (3, 1, 2, 0)])

    def test_a_wiring_of_four_wires(self):
        self.assertEqual([fall for fall in own_falls((3, 1, 2, 0)) if len(fall) == 3], [(0, 1, 3), (0, 2, 3)])
        left = [row for _, row in crossing((3, 1, 2, 0), (0, 1, 3)).terms if not is_kept(row, 2)]
        self.assertEqual(left, [(0, 3, 2, 1), (1, 3, 2, 0), (3, 0, 2, 1), (3, 1, 2, 0)])

    def test_one_crossing_told_by_two_wirings(self):
        over = Sum.of((2, 1, 0))
        self.assertEqual(crossing((0, 1, 2), (0, 1, 2)), crossing((2, 1, 0), (0, 1, 2)).times(-1))
        steps = [(1, (0, 1, 2), (0, 1, 2)), (2, (2, 1, 0), (0, 1, 2))]
        self.assertTrue(shows_written(over, 2, Written(written(over, 2), steps)))

    def test_lengths_with_at_most_three_rounds(self):
        told = [[6], [5, 1], [4, 2], [3, 3], [4, 1, 1], [3, 2, 1], [2, 2, 2]]
        want = [row for row in rows_of(6) if len(own_rounds(row)) <= 3]
        self.assertEqual(sorted(row for lengths in told for _, row in class_sum(6, lengths).terms), want)

    def test_a_difference(self):
        self.assertEqual(difference(Sum.of((1, 0, 2)), 1), Sum.of((2, 0, 1)) - Sum.of((1, 2, 0)))


if __name__ == "__main__":
    unittest.main()
