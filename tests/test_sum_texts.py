"""The texts of sums, and what cannot be read."""

import random
import re

from fromsize.errors import BadText
from fromsize.sums import Sum
from tests.own import GREAT, ODD_VALUES, Case, drawn_sum, rows_of

SHAPE = re.compile("[1-6] :( -?[1-9][0-9]{0,59} [0-5]+( / -?[1-9][0-9]{0,59} [0-5]+)*)?")


def is_text(items):
    """Whether these items are the text of a sum, asked of the whole text."""
    text = " ".join(items)
    if SHAPE.fullmatch(text) is None:
        return False
    rows = items[3::3]
    signs = "012345"[:int(items[0])]
    return all(sorted(row) == list(signs) for row in rows) and all(one < other for one, other in zip(rows, rows[1:]))


def can_begin(items):
    """Whether some text begins with these items: if so, one ends with the latest of all wirings, or sooner."""
    latest = "543210"[6 - int(items[0]):] if items[0] in tuple("123456") else "0"
    return any(is_text(items + rest) for rest in ([], [":"], [latest], ["1", latest]))


def own_fault(items):
    """The item at which reading must stop, None for the text of a sum."""
    for at in range(len(items)):
        if not can_begin(items[:at + 1]):
            return at
    return None if is_text(items) else len(items)


class TextsTest(Case):
    def asked(self, items):
        text = " ".join(items)
        want = own_fault(text.split(" "))
        if want is None:
            self.assertEqual(str(Sum.read(text)), text)
        else:
            self.refused(BadText(want), Sum.read, text)

    def test_written_and_read(self):
        draw = random.Random(1)
        for wires in range(1, 7):
            self.assertEqual(str(Sum(wires, [])), f"{wires} :")
            for great in (1, 9, 10 ** 59):
                for _ in range(10):
                    total = drawn_sum(draw, wires, 9, great)
                    want = " / ".join(f"{weight} {''.join(map(str, row))}" for weight, row in total.terms)
                    self.assertEqual(str(total), f"{wires} : {want}" if want else f"{wires} :")
                    self.assertEqual(Sum.read(str(total)), total)
                    self.assertEqual(Sum.read(text=str(total)).terms, total.terms)

    def test_one_item_bent(self):
        draw = random.Random(2)
        others = ["", "0", "-0", "00", "1", "+1", "-1", "01", "-01", "7", ":", "/", "::", "a", "\u0663", "\u00b2", "1_0",
                  "1.0", "--1", "-", "0 ", "012", "210", "10", "1\n", "\t", "9" * 60, "9" * 61, "-" + "9" * 60,
                  "-" + "9" * 61, "1" + "0" * 60, "True"]
        for wires in (1, 2, 3, 4, 6):
            for _ in range(10):
                items = str(drawn_sum(draw, wires, 4)).split(" ")
                self.asked(items)
                for at in range(len(items) + 1):
                    self.asked(items[:at])
                    self.asked(items[:at] + items[at + 1:])
                    self.asked(items[:at] + [draw.choice(items)] + items[at:])
                    self.asked(items[:at] + items[at - 1:])
                    for other in draw.sample(others, 8):
                        self.asked(items[:at] + [other] + items[at + 1:])
                        self.asked(items[:at] + [other] + items[at:])

    def test_each_place(self):
        for text, item in (("", 0), (" ", 0), ("0 :", 0), ("7 :", 0), ("03 :", 0), ("3", 1), ("3 ", 1), ("3 ;", 1), (" 3 :", 0),
                           ("3 : ", 2), ("3 :  ", 2), ("3 : 0 012", 2), ("3 : +1 012", 2), ("3 : 1", 3), ("3 : 1 01", 3),
                           ("3 : 1 013", 3), ("3 : 1 0122", 3), ("3 : 1 012 ", 4), ("3 : 1 012 /", 5), ("3 : 1 012 / 1", 6),
                           ("3 : 1 012 / 1 012", 6), ("3 : 1 021 / 1 012", 6), ("3 : 1 012 1 021", 4), ("1 : 1 0 /", 4),
                           ("1 : 1 0 / 1 0", 4), ("2 : 3 01 / 1 10 /", 7), ("2 : 3 10 /", 4), ("3 : / 1 012", 2), ("3 /", 1),
                           ("3 : 1 012 / / 1 021", 5), ("3 : 1 0,1,2", 3), ("3 : 1 012\n", 3), ("\u0663 :", 0), ("3:", 0),
                           ("3 : 1  012", 3), ("3  : 1 012", 1)):
            self.refused(BadText(item), Sum.read, text)

    def test_long_integers(self):
        for digits in ("1" * 60, "-" + "9" * 60):
            self.assertEqual(Sum.read(f"2 : {digits} 10").terms, ((int(digits), (1, 0)),))
            self.refused(BadText(2), Sum.read, f"2 : {digits}0 10")
            self.refused(BadText(5), Sum.read, f"2 : 1 01 / {digits}0 10")
        self.assertEqual(str(Sum(1, [(10 ** 60, (0,))])), "1 : 1" + "0" * 60 + " 0")
        self.refused(BadText(2), Sum.read, str(Sum(1, [(10 ** 60, (0,))])))

    def test_greater_integers_than_str_takes(self):
        for power in (600, 601, 602, 603, 604, 1000, 4299, 4300, 4301, 9000, 20000):
            self.assertEqual(str(Sum(1, [(10 ** power, (0,))])), "1 : 1" + "0" * power + " 0")
            self.assertEqual(str(Sum(1, [(1 - 10 ** power, (0,))])), "1 : -" + "9" * power + " 0")
        self.assertEqual(str(Sum(1, [(10 ** 9000 + GREAT, (0,))])), "1 : 1" + "0" * 8969 + "1" + "0" * 30 + " 0")

    def test_what_is_no_string(self):
        for value in [3, b"3 :", ["3", ":"], ("3 :",), Sum(3, []), 0, *[value for value in ODD_VALUES if value != ""]]:
            self.refused(BadText(0), Sum.read, value)
        for text in ("", "012", "a", "x" * 100000, " " * 100000):
            self.refused(BadText(0), Sum.read, text)
        self.refused(BadText(2), Sum.read, "6 : " + "9" * 99990)
        self.refused(BadText(3), Sum.read, "6 : 1 " + "0" * 99990)

    def test_all_wirings(self):
        for wires in (3, 4, 5):
            total = Sum(wires, [(-2, row) for row in rows_of(wires)])
            text = str(total)
            self.assertEqual(Sum.read(text), total)
            self.refused(BadText(len(text.split(" "))), Sum.read, text + " /")
            self.refused(BadText(len(text.split(" "))), Sum.read, text + " ")
