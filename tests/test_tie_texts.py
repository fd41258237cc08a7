"""The texts of sums of ties, and what cannot be read."""

import random
import re

from fromsize.errors import BadText
from fromsize.tie_sums import TieSum
from tests.own import GREAT, ODD_VALUES, Case
from tests.own_ties import drawn_tie_sum, matchings

NUMBER = "(0|-?[1-9][0-9]{0,59})"
SHAPE = re.compile(f"(2|4|6|8|10) :( [0-9]+( {NUMBER})+( / [0-9]+( {NUMBER})+)*)?")
LATEST = {str(ends): "9876543210"[10 - ends:] for ends in (2, 4, 6, 8, 10)}
ROWS = {str(ends): {"".join(map(str, row)) for row in matchings(ends)} for ends in (2, 4, 6, 8, 10)}


def is_text(items):
    """Whether these items are the text of a sum of ties, asked of the whole text."""
    text = " ".join(items)
    if SHAPE.fullmatch(text) is None:
        return False
    terms = [part.split(" ") for part in text.split(" : ")[1].split(" / ")] if len(items) > 2 else []
    rows = [term[0] for term in terms]
    if not all(row in ROWS[items[0]] for row in rows) or any(term[-1] == "0" for term in terms):
        return False
    return all(one < other for one, other in zip(rows, rows[1:]))


def can_begin(items):
    """Whether some text begins with these items: if so, one ends with a 1, or with the latest ties, or sooner."""
    latest = LATEST.get(items[0], "10")
    return any(is_text(items + rest) for rest in ([], [":"], ["1"], [latest, "1"]))


def own_fault(items):
    """The item at which reading must stop, None for the text of a sum of ties."""
    for at in range(len(items)):
        if not can_begin(items[:at + 1]):
            return at
    return None if is_text(items) else len(items)


class TextsTest(Case):
    def asked(self, items):
        text = " ".join(items)
        want = own_fault(text.split(" "))
        if want is None:
            self.assertEqual(str(TieSum.read(text)), text)
        else:
            self.refused(BadText(want), TieSum.read, text)

    def test_written_and_read(self):
        draw = random.Random(1)
        for ends in (2, 4, 6, 8, 10):
            self.assertEqual(str(TieSum(ends, [])), f"{ends} :")
            self.assertEqual(TieSum.read(f"{ends} :"), TieSum(ends, []))
            for great in (1, 9, 10 ** 59):
                for _ in range(10):
                    total = drawn_tie_sum(draw, ends, 6, great, 4)
                    parts = [" ".join(["".join(map(str, row)), *map(str, weight)]) for weight, row in total.terms]
                    want = f"{ends} : {' / '.join(parts)}" if parts else f"{ends} :"
                    self.assertEqual(str(total), want)
                    self.assertEqual(TieSum.read(want), total)
                    self.assertEqual(TieSum.read(text=want).terms, total.terms)

    def test_one_item_bent(self):
        draw = random.Random(2)
        others = ["", "0", "-0", "00", "1", "+1", "-1", "01", "-01", "7", ":", "/", "::", "a", "\u0663", "\u00b2", "1_0", "1.0",
                  "--1", "-", "0 ", "10", "01", "3210", "1032", "2301", "1\n", "\t", "9" * 60, "9" * 61, "-" + "9" * 60,
                  "-" + "9" * 61, "1" + "0" * 60, "True", "2", "12"]
        for ends in (2, 4, 4, 6, 10):
            for _ in range(10):
                items = str(drawn_tie_sum(draw, ends, 4)).split(" ")
                self.asked(items)
                for at in range(len(items) + 1):
                    self.asked(items[:at])
                    self.asked(items[:at] + items[at + 1:])
                    self.asked(items[:at] + [draw.choice(items)] + items[at:])
                    self.asked(items[:at] + items[at - 1:])
                    for other in draw.sample(others, 8):
                        self.asked(items[:at] + [other] + items[at + 1:])
                        self.asked(items[:at] + [other] + items[at:])

    def test_each_place(self):
        for text, item in (("", 0), (" ", 0), ("0 :", 0), ("3 :", 0), ("12 :", 0), ("04 :", 0), ("4", 1), ("4 ", 1), ("4 ;", 1),
                           (" 4 :", 0), ("4 : ", 2), ("4 :  ", 2), ("4 : /", 2), ("4 : 1", 2), ("4 : 10 1", 2), ("4 : 0123 1", 2),
                           ("4 : 1032", 3), ("4 : 1032 ", 3), ("4 : 1032 /", 3), ("4 : 1032 0", 4), ("4 : 1032 0 0", 5),
                           ("4 : 1032 0 /", 4), ("4 : 1032 1 0", 5), ("4 : 1032 1 0 /", 5), ("4 : 1032 1 0 / 2301 1", 5),
                           ("4 : 1032 1 /", 5), ("4 : 1032 1 / 2301", 6), ("4 : 1032 1 / 1032 1", 5), ("4 : 2301 1 / 1032 1", 5),
                           ("4 : 3210 1 /", 4), ("4 : 3210 1 / 3210 1", 4), ("4 : 3210 1 2 /", 5), ("2 : 10 1 /", 4),
                           ("4 : 1032 1 2301 1 /", 7), ("4 : 1032 1 / / 2301", 5), ("4 : 1032 -0", 3), ("4 : 1032 +1", 3),
                           ("4 : 1032 1  2", 4), ("4 : 10 32 1", 2), ("4:", 0), ("10 : 1032547698", 3), ("4 : 103\u0662 1", 2),
                           ("\u0664 :", 0), ("4 : 1032 1\n", 3), ("4  : 1032 1", 1)):
            self.refused(BadText(item), TieSum.read, text)
        self.assertEqual(TieSum.read("4 : 1032 1 2301 1").terms, (((1, 2301, 1), (1, 0, 3, 2)),))

    def test_long_integers(self):
        for digits in ("1" * 60, "-" + "9" * 60):
            self.assertEqual(TieSum.read(f"2 : 10 0 {digits}").terms, (((0, int(digits)), (1, 0)),))
            self.refused(BadText(3), TieSum.read, f"2 : 10 {digits}0")
            self.refused(BadText(4), TieSum.read, f"2 : 10 1 {digits}0")
            self.refused(BadText(4), TieSum.read, f"2 : 10 1 {digits}0 1")
        total = TieSum(2, [([10 ** 60, 1 - 10 ** 5000], (1, 0))])
        self.assertEqual(str(total), "2 : 10 1" + "0" * 60 + " -" + "9" * 5000)
        self.refused(BadText(3), TieSum.read, str(total))
        self.assertEqual(str(TieSum(2, [([GREAT], (1, 0))])), "2 : 10 1" + "0" * 30)

    def test_what_is_no_string(self):
        for value in [4, b"4 :", ["4", ":"], ("4 :",), TieSum(4, []), 0, *[value for value in ODD_VALUES if value != ""]]:
            self.refused(BadText(0), TieSum.read, value)
        for text in ("", "1032", "a", "x" * 100000, " " * 100000):
            self.refused(BadText(0), TieSum.read, text)
        self.refused(BadText(2), TieSum.read, "10 : " + "1" * 99990)
        self.refused(BadText(3), TieSum.read, "2 : 10 " + "9" * 99990)
        zeros = " 0" * 49990
        self.refused(BadText(49993), TieSum.read, "2 : 10" + zeros)
        self.assertEqual(TieSum.read("2 : 10" + zeros + " 1").terms, (((0,) * 49990 + (1,), (1, 0)),))

    def test_all_ties(self):
        for ends in (2, 4, 6, 8):
            total = TieSum(ends, [((-2, 0, 5), row) for row in matchings(ends)])
            text = str(total)
            self.assertEqual(TieSum.read(text), total)
            self.refused(BadText(len(text.split(" "))), TieSum.read, text + " /")
            self.refused(BadText(len(text.split(" "))), TieSum.read, text + " ")
            self.refused(BadText(len(text.split(" ")) + 1), TieSum.read, text + " 0")
