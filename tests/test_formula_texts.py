"""The texts of formulas, and what cannot be read."""

import random
import re

from fromsize.errors import BadText
from fromsize.formulas import Formula
from tests.own import GREAT, ODD_VALUES, Case
from tests.own_formulas import drawn_formula, own_round

NUMBER = "-?[1-9][0-9]{0,59}"
TRACE = "( \\( [a-z]'?( [a-z]'?)* \\))*"
SHAPES = {"table": re.compile(f"table :( {NUMBER}{TRACE}( [a-z]'?)*( / {NUMBER}{TRACE}( [a-z]'?)*)*)?"),
          "number": re.compile(f"number :( {NUMBER}{TRACE}( / {NUMBER}{TRACE})*)?")}

# Texts, and the item at which reading must stop.
FAULTS = [
    ("", 0), (" ", 0), ("tables :", 0), ("Table :", 0), ("table", 1), ("table ", 1), ("number ;", 1),
    (" table :", 0), ("table : ", 2), ("table : 0", 2), ("table : 0 a", 2), ("table : a", 2), ("table : -0", 2),
    ("table : +1", 2), ("table : ( a )", 2), ("table : /", 2), ("table : 1 /", 4), ("table : 1 a /", 5),
    ("table : 1 / /", 4), ("table : 1 (", 4), ("table : 1 ( )", 4), ("table : 1 ( a", 5), ("table : 1 ( a /", 5),
    ("table : 1 ( a ( b )", 5), ("table : 1 )", 3), ("table : 1 a )", 4), ("table : 1 a ( b )", 4),
    ("table : 1 a 2", 4), ("table : 1 2", 3), ("number : 1 a", 3), ("number : 1 ( a ) b", 6),
    ("number : 1 ( b a )", 6), ("number : 1 ( a' )", 5), ("number : 1 ( b ) ( a )", 8),
    ("number : 1 ( b ) ( a ) x", 8), ("number : 1 ( a ) / 2", 7), ("number : 1 ( b ) / 2 ( a )", 10),
    ("number : 1 ( b ) / 2 ( a ) x", 11), ("number : 1 ( a ) / 1 ( a )", 10), ("number : 1 ( b ) / 2 ( b a )", 11),
    ("table : 1 b / 2 a", 6), ("table : 1 b / 2 a c", 7), ("table : 1 b / 2 a 3", 7), ("table : 1 b / 2 a /", 6),
    ("table : 1 b / 2 a / 3 c", 6), ("table : 1 b / 2", 5), ("table : 1 / 2", 4), ("table : 1 b / 2 /", 5),
    ("table : 1 b / 2 ( a", 8), ("table : 1 b / 1 b", 6), ("table : 1 ( a ) / 1 b", 8),
    ("table : 1 ( a b' ) ( a b )", 10), ("table : 1  a", 3), ("table:", 0), ("number : 3 / 4", 4),
    ("table : 1 a\n", 3), ("table : 1 a\u2019", 3), ("\u0442able :", 0), ("table  : 1", 1),
    ("table : 1 a b / 1 a", 7), ("table : 1 a / 1 a b c / 1 a b", 12)
]


def has_shape(items):
    return items[0] in SHAPES and SHAPES[items[0]].fullmatch(" ".join(items)) is not None


def can_begin(items):
    """Whether some text of the right shape, whatever the order in it, begins with these items."""
    return any(has_shape(items + rest) for rest in ([], [":"], ["1"], [")"], ["a", ")"]))


def shape_fault(items):
    """The item at which the shape is lost, the number of items if one is missing, None for the right shape."""
    for at in range(len(items)):
        if not can_begin(items[:at + 1]):
            return at
    return None if has_shape(items) else len(items)


def order_faults(items, whole):
    """The items at which traces, and terms that are ended, are not as they must be; the items have the right shape."""
    found, ahead, start = [], None, 2
    ends = [at for at in range(len(items)) if items[at] == "/"] + ([len(items)] if whole else [])
    for end in ends + ([] if whole else [len(items)]):
        traces, word, opened = [], [], None
        for at in range(start + 1, end):
            if items[at] == "(":
                opened = at
            elif items[at] == ")":
                trace = tuple(items[opened + 1:at])
                if trace != own_round(trace) or (traces and trace < traces[-1]):
                    found.append(at)
                traces.append(trace)
                opened = None
            elif opened is None:
                word.append(items[at])
        if end in ends:
            if ahead is not None and not ahead < (traces, word):
                found.append(end - 1)
            ahead = (traces, word)
        start = end + 1
    return found


def own_fault(items):
    """The first item at which reading must stop, None for the text of a formula."""
    fault = shape_fault(items)
    upto = items if fault is None else items[:fault]
    faults = order_faults(upto, fault is None) if len(upto) > 2 else []
    return min(faults + ([] if fault is None else [fault]), default=None)


class TextsTest(Case):
    def asked(self, items):
        text = " ".join(items)
        want = own_fault(text.split(" "))
        if want is None:
            self.assertEqual(str(Formula.read(text)), text)
        else:
            self.refused(BadText(want), Formula.read, text)
        return want

    def test_written_and_read(self):
        draw = random.Random(1)
        for kind, is_table in (("table", True), ("number", False)):
            self.assertEqual(str(Formula(is_table, [])), f"{kind} :")
            self.assertEqual(Formula.read(f"{kind} :"), Formula(is_table, []))
            for great in (1, 9, 10 ** 59):
                for _ in range(30):
                    formula = drawn_formula(draw, is_table, 6, great)
                    parts = []
                    for weight, traces, word in formula.terms:
                        told = [f"( {' '.join(trace)} )" for trace in traces]
                        parts.append(" ".join([str(weight), *told, *(word or ())]))
                    want = f"{kind} : {' / '.join(parts)}" if parts else f"{kind} :"
                    self.assertEqual(str(formula), want)
                    self.assertEqual(Formula.read(want), formula)
                    self.assertEqual(Formula.read(text=want).terms, formula.terms)
                    self.assertIs(Formula.read(want).is_table, is_table)
                    self.assertEqual(Formula.read(want).letters, formula.letters)

    def test_one_item_bent(self):
        draw = random.Random(2)
        others = ["", "0", "-0", "00", "1", "+1", "-1", "01", "7", ":", "/", "(", ")", "()", "a", "a'", "b", "b'", "c", "z", "A", "a''",
                  "'", "ab", "*", "\u0663", "1_0", "1.0", "--1", "-", "a\n", "9" * 60, "9" * 61, "-" + "9" * 61, "table", "number"]
        met = set()
        for number in range(50):
            items = str(drawn_formula(draw, number % 3 > 0, 4, 5, "ab")).split(" ")
            self.assertIs(self.asked(items), None)
            for at in range(len(items) + 1):
                told = [items[:at], items[:at] + items[at + 1:], items[:at] + [draw.choice(items)] + items[at:],
                        items[:at] + items[at - 1:], items[:at - 1] + items[at:at + 1] + items[at - 1:at] + items[at + 1:]]
                told += [items[:at] + [other] + items[at + 1:] for other in draw.sample(others, 8)]
                told += [items[:at] + [other] + items[at:] for other in draw.sample(others, 8)]
                for bent in told:
                    met.add(self.asked(bent) is None)
        self.assertEqual(met, {True, False})

    def test_terms_in_another_order(self):
        draw = random.Random(3)
        for number in range(60):
            text = str(drawn_formula(draw, number % 2 == 0, 5, 5, "ab"))
            if " / " in text:
                head, rest = text.split(" : ")
                parts = rest.split(" / ")
                draw.shuffle(parts)
                self.asked(f"{head} : {' / '.join(parts)}".split(" "))
                self.asked(f"{head} : {' / '.join(parts + parts[:1])}".split(" "))

    def test_each_place(self):
        for text, item in FAULTS:
            self.refused(BadText(item), Formula.read, text)
            self.assertEqual(own_fault(text.split(" ")), item)

    def test_what_can_stand(self):
        for text in ("table : 1 ( a ) ( a ) ( a a ) / -2 ( a ) ( b ) b' b", "number : 3", "number : -1 ( a ) / 1 ( a ) ( a )", "table : 3",
                     "table : 1 / 1 a / 1 a a / 1 a' / 1 b", "number : 1 ( a b' ) ( a b' )", "table : 5 ( z ) z'",
                     "table : 1 a / 2 ( a )"):
            self.assertEqual(str(Formula.read(text)), text)
        self.assertEqual(Formula.read("table : 1 ( a b' ) c").terms, ((1, (("a", "b'"),), ("c",)),))
        self.assertEqual(Formula.read("number : 3").terms, ((3, (), None),))

    def test_long_integers(self):
        for digits in ("1" * 60, "-" + "9" * 60):
            self.assertEqual(Formula.read(f"table : {digits} a").terms, ((int(digits), (), ("a",)),))
            self.refused(BadText(2), Formula.read, f"table : {digits}0 a")
            self.refused(BadText(5), Formula.read, f"table : 1 a / {digits}0 b")
        formula = Formula(True, [(1 - 10 ** 5000, [["a"]], [])])
        self.assertEqual(str(formula), "table : -" + "9" * 5000 + " ( a )")
        self.refused(BadText(2), Formula.read, str(formula))
        self.assertEqual(str(Formula(False, [(GREAT, [], None)])), "number : 1" + "0" * 30)

    def test_what_is_no_string(self):
        for value in [4, b"table :", ["table", ":"], ("table :",), Formula(True, []), 0, *[value for value in ODD_VALUES if value != ""]]:
            self.refused(BadText(0), Formula.read, value)
        for text in ("", "a", "x" * 100000, " " * 100000):
            self.refused(BadText(0), Formula.read, text)
        self.refused(BadText(3), Formula.read, "table : 1 " + "a" * 99990)

    def test_long_texts(self):
        word = " a" * 49990
        self.assertEqual(len(Formula.read("table : 1" + word).terms[0][2]), 49990)
        self.assertEqual(Formula.read(f"number : 1 ({word} )").terms[0][1], (("a",) * 49990,))
        self.refused(BadText(49995), Formula.read, f"number : 1 ( b{word} )")
        self.refused(BadText(49994), Formula.read, f"number : 1 ({word}")
        traces = " ( a )" * 16660
        self.assertEqual(len(Formula.read("number : 1" + traces).terms[0][1]), 16660)
