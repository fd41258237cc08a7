"""The texts of measures, and what cannot be read."""

import random
import re

from fromsize.errors import BadText
from fromsize.measures import Measure
from tests.own import GREAT, ODD_VALUES, Case
from tests.own_measures import all_lists, drawn_measure

SHAPE = re.compile("[1-4] [1-5] :( -?[1-9][0-9]{0,59} [0-3]+( / -?[1-9][0-9]{0,59} [0-3]+)*)?")


def is_text(items):
    """Whether these items are the text of a measure, asked of the whole text."""
    if SHAPE.fullmatch(" ".join(items)) is None:
        return False
    size, many, lists = int(items[0]), int(items[1]), items[4::3]
    if size ** many > 256 or not all(len(told) == 2 * many and max(told) < str(size) for told in lists):
        return False
    return all(one < other for one, other in zip(lists, lists[1:]))


def can_begin(items):
    """Whether some text begins with these items: if so, one ends with the last list of all, or sooner."""
    last = ""
    if len(items) > 1 and items[0] in tuple("1234") and items[1] in tuple("12345"):
        last = str(int(items[0]) - 1) * (2 * int(items[1]))
    return any(is_text(items + rest) for rest in ([], [":"], ["1", ":"], [last], ["1", last]))


def own_fault(items):
    """The item at which reading must stop, None for the text of a measure."""
    for at in range(len(items)):
        if not can_begin(items[:at + 1]):
            return at
    return None if is_text(items) else len(items)


class TextsTest(Case):
    def asked(self, items):
        text = " ".join(items)
        want = own_fault(text.split(" "))
        if want is None:
            self.assertEqual(str(Measure.read(text)), text)
        else:
            self.refused(BadText(want), Measure.read, text)

    def test_written_and_read(self):
        draw = random.Random(1)
        for size in (1, 2, 3, 4):
            for many in (1, 2, 3, 4, 5):
                if size ** many <= 256:
                    self.assertEqual(str(Measure(size, many, [])), f"{size} {many} :")
                    self.assertEqual(Measure.read(f"{size} {many} :"), Measure(size, many, []))
                    for great in (1, 9, 10 ** 59):
                        for _ in range(4):
                            measure = drawn_measure(draw, size, many, 9, great)
                            want = " / ".join(f"{weight} {''.join(f'{row}{column}' for row, column in places)}" for weight, places in measure.terms)
                            self.assertEqual(str(measure), f"{size} {many} : {want}" if want else f"{size} {many} :")
                            self.assertEqual(Measure.read(str(measure)), measure)
                            self.assertEqual(Measure.read(text=str(measure)).terms, measure.terms)

    def test_one_item_bent(self):
        """An item put in, left out, exchanged, told again."""
        draw = random.Random(2)
        others = ["", "0", "-0", "00", "1", "+1", "-1", "01", "-01", "5", ":", "/", "::", "a", "\u0663", "\u00b2", "1_0", "1.0", "--1", "-",
                  "0 ", "0011", "11", "03", "000000", "1\n", "\t", "9" * 60, "9" * 61, "-" + "9" * 60, "-" + "9" * 61, "1" + "0" * 60, "4",
                  "3", "2", "True"]
        for size, many in ((1, 1), (1, 3), (2, 1), (2, 2), (3, 2), (4, 1), (4, 4), (2, 5)):
            for _ in range(8):
                items = str(drawn_measure(draw, size, many, 4)).split(" ")
                self.asked(items)
                for at in range(len(items) + 1):
                    self.asked(items[:at])
                    self.asked(items[:at] + items[at + 1:])
                    self.asked(items[:at] + [draw.choice(items)] + items[at:])
                    self.asked(items[:at] + items[at - 1:])
                    for other in draw.sample(others, 8):
                        self.asked(items[:at] + [other] + items[at + 1:])
                        self.asked(items[:at] + [other] + items[at:])

    def test_each_place(self):
        for text, item in (("", 0), (" ", 0), ("0 1 :", 0), ("5 1 :", 0), ("02 1 :", 0), ("2", 1), ("2 ", 1), ("2 0 :", 1), ("2 6 :", 1), ("4 5 :", 1),
                           ("4 5", 1), ("2 01 :", 1), ("2 1", 2), ("2 1 ;", 2), (" 2 1 :", 0), ("2 1 : ", 3), ("2 1 : 0 00", 3), ("2 1 : +1 00", 3),
                           ("2 1 : 1", 4), ("2 1 : 1 0", 4), ("2 1 : 1 02", 4), ("2 1 : 1 000", 4), ("2 1 : 1 00 ", 5), ("2 1 : 1 00 /", 6),
                           ("2 1 : 1 00 / 1", 7), ("2 1 : 1 00 / 1 00", 7), ("2 1 : 1 01 / 1 00", 7), ("2 1 : 1 00 1 01", 5), ("2 1 : 1 11 /", 5),
                           ("2 1 : 1 11 / 1 11", 5), ("1 3 : 5 000000 /", 5), ("2 1 : / 1 00", 3), ("2 1 : 1 00 / / 1 01", 6), ("2 1 : 1 0,0", 4),
                           ("2 1 : 1 00\n", 4), ("2 1:", 1), ("2 1 : 1  00", 4), ("2  1 :", 1), ("2 1 : 1 0\u0661", 4), ("2 2 : 1 0011 / -1 0110 / 0 1001", 9),
                           ("3 1 : 1 03", 4), ("2 1 : 1 -0", 4), ("2 1 : 1 0 0", 4)):
            self.refused(BadText(item), Measure.read, text)
            self.assertEqual(own_fault(text.split(" ")), item)

    def test_long_integers(self):
        for digits in ("1" * 60, "-" + "9" * 60):
            self.assertEqual(Measure.read(f"2 1 : {digits} 10").terms, ((int(digits), ((1, 0),)),))
            self.refused(BadText(3), Measure.read, f"2 1 : {digits}0 10")
            self.refused(BadText(6), Measure.read, f"2 1 : 1 01 / {digits}0 10")
        self.assertEqual(str(Measure(1, 1, [(10 ** 60, [(0, 0)])])), "1 1 : 1" + "0" * 60 + " 00")
        self.refused(BadText(3), Measure.read, str(Measure(1, 1, [(10 ** 60, [(0, 0)])])))
        for power in (601, 4299, 4300, 4301, 9000):
            self.assertEqual(str(Measure(1, 1, [(1 - 10 ** power, [(0, 0)])])), "1 1 : -" + "9" * power + " 00")
        self.assertEqual(str(Measure(2, 1, [(GREAT, [(1, 0)])])), "2 1 : 1" + "0" * 30 + " 10")

    def test_what_is_no_string(self):
        for value in [2, b"2 1 :", ["2", "1", ":"], ("2 1 :",), Measure(2, 1, []), 0, *[value for value in ODD_VALUES if value != ""]]:
            self.refused(BadText(0), Measure.read, value)
        for text in ("", "012", "a", "x" * 100000, " " * 100000):
            self.refused(BadText(0), Measure.read, text)
        self.refused(BadText(3), Measure.read, "2 1 : " + "9" * 99990)
        self.refused(BadText(4), Measure.read, "2 1 : 1 " + "0" * 99990)

    def test_all_lists(self):
        for size, many in ((1, 5), (2, 2), (3, 1), (4, 2), (2, 3)):
            measure = Measure(size, many, [(-2, places) for places in all_lists(size, many)])
            text = str(measure)
            self.assertEqual(Measure.read(text), measure)
            self.refused(BadText(len(text.split(" "))), Measure.read, text + " /")
            self.refused(BadText(len(text.split(" "))), Measure.read, text + " ")
