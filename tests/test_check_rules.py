"""The checks of papers about rules: right ones, and ones bent at each place."""

import random
import time
from itertools import permutations

from fromsize.central import Central, central
from fromsize.check_rules import shows_central, shows_rule, shows_turned_rule
from fromsize.errors import BadFormula, BadNumber, Misfit, TooMany
from fromsize.formulas import Formula
from fromsize.one import cayley, one_rule
from fromsize.papers import Denial, Paper
from fromsize.rules import Differs, Made, rule
from fromsize.tie_written import NothingTied
from fromsize.turned_rules import MadeTied, turned_rule
from fromsize.written import Nothing, Something
from tests.own import GREAT, ODD_VALUES, Case, drawn_row
from tests.own_formulas import drawn_formula, drawn_table, own_value
from tests.own_rules import (are_own_tables, changed, drawn_rule, fits, is_own_made, is_own_something, is_scalar, own_lots)
from tests.own_turned import drawn_tied_rule, is_own_made_tied
from tests.test_central import drawn_central, own_levelled
from tests.test_check_ties import bent_steps
from tests.test_check_written import with_item
from tests.test_led import NO_FORMULAS
from tests.test_rules import NO_SIZES

ODD_PARTS = [None, True, False, 0, 1, "", "a", "ab", 1.5, (), {}, {"a": 1}, {1}, object(), Made(()), Formula.of(["a"]), ((),), (None,)]


def replaced(row, at, items):
    """The row with other items in the place of one."""
    return row[:at] + tuple(items) + row[at + 1:]


def bent_words(words):
    """Rows of words that are bent in one place."""
    found = [words[1:], words + words[:1], words + ((),), words + (("a",),), words + (("*",),), words[::-1], (words,), "".join(words[0]) if words else "a"]
    for at, word in enumerate(words):
        found += [replaced(words, at, []), replaced(words, at, [()]), replaced(words, at, [word, word]), replaced(words, at, [word[::-1]])]
        found += [replaced(words, at, [part]) for part in ODD_PARTS]
        found += [replaced(words, at, [word[:1], word[1:]]), replaced(words, at, [word + ("a",)]), replaced(words, at, [word + ("*",)])]
        if at > 0:
            found.append(replaced(replaced(words, at, [words[at - 1] + word]), at - 1, []))
        for place, string in enumerate(word):
            for other in ("a", "b", "z", string + "'", "*", "", "ab", string.upper(), None, 1, (string,), True):
                found.append(replaced(words, at, [replaced(word, place, [other])]))
            found.append(replaced(words, at, [replaced(word, place, [])]))
    return found


def bent_making(making):
    """Makings that are bent in one place; they may be right nevertheless."""
    weight, traces, words = making
    found = [(other, traces, words) for other in (weight + 1, -weight, 0, True, False, None, str(weight), float(weight), (weight,), 2 * weight)]
    found += [(weight, bent, words) for bent in bent_words(traces)] + [(weight, traces, bent) for bent in bent_words(words)]
    found += [(weight, traces, words, ()), (weight, traces), (), (traces, weight, words), (weight, words, traces), None, "abc", 7,
              (weight, traces + words[:1], words[1:]), (weight, traces[1:], words + traces[:1]), (weight, [list(word) for word in traces], words)]
    found += [(weight, part, words) for part in ODD_PARTS] + [(weight, traces, part) for part in ODD_PARTS]
    if len(words) > 1:
        first, second = words[0], words[1]
        found.append((weight, traces, ((second[0],) + first[1:], (first[0],) + second[1:]) + words[2:]))
        found.append((-weight, traces, words[::-1]))
    return found


def bent_lists(lists):
    """Lists of makings that are bent in one place."""
    found = [lists[1:], lists + ((),), lists + lists[:1], lists[::-1], (lists,), lists[:-1] + ((),), ()]
    for at, makings in enumerate(lists):
        found += [replaced(lists, at, [part]) for part in ODD_PARTS]
        found += [replaced(lists, at, [makings[1:]]), replaced(lists, at, [makings + makings[:1]]), replaced(lists, at, [makings[::-1]]),
                  replaced(lists, at, [makings + tuple((-one[0],) + one[1:] for one in makings) + makings])]
        for place, making in enumerate(makings[:2]):
            found += [replaced(lists, at, [replaced(makings, place, [bent])]) for bent in bent_making(making)]
            found.append(replaced(lists, at, [replaced(makings, place, [(making[0] - 1,) + making[1:], (1,) + making[1:]])]))
    return found


def bent_tables(tables, size):
    """Lists of letters and tables that are bent in one place."""
    found = [tables[1:], tables + tables[:1], tables[::-1], (tables,), tables + (("z", ((0,) * size,) * size),), ()]
    for at, (letter, table) in enumerate(tables):
        found += [replaced(tables, at, [part]) for part in ODD_PARTS]
        for other in ("a", "b", "z", letter + "'", letter.upper(), "*", "", None, 0, True, (letter,)):
            found.append(replaced(tables, at, [(other, table)]))
        zeros = ((0,) * size,) * size
        unit = tuple(tuple(int(i == j) for j in range(size)) for i in range(size))
        others = [zeros, unit, table[1:], table + table[:1], table[::-1], tuple(row[1:] for row in table), tuple(row + (0,) for row in table),
                  table[0], (table,), tuple(row + (0,) for row in table) + ((0,) * (size + 1),), [list(row) for row in table]]
        found += [replaced(tables, at, [(letter, other)]) for other in others + ODD_PARTS]
        found += [replaced(tables, at, [(letter, table, 0)]), replaced(tables, at, [(letter,)]), replaced(tables, at, [(table, letter)])]
        for place in range(size):
            for entry in (GREAT, 0, 1, -1, True, None, "1", 1.0, (1,), 10 ** 400):
                found.append(replaced(tables, at, [(letter, with_item(table, place, with_item(table[place], place // 2, entry)))]))
    return found


class CheckCase(Case):
    def shown(self, want, formula, size, value):
        self.assertIs(shows_rule(formula, size, value), want)

    def made(self, formula, size, lists):
        """A Made of these lists is shown exactly if it is right."""
        paper = Made(lists)
        self.shown(is_own_made(formula, size, paper.lots), formula, size, paper)

    def differs(self, formula, size, tables):
        paper = Differs(tables)
        self.shown(is_own_something(formula, size, paper.tables), formula, size, paper)


class ShowsMadeTest(CheckCase):
    def test_right_ones(self):
        draw = random.Random(1)
        for size in (1, 2, 3, 4):
            for is_table in (True, False):
                for number in range(4):
                    formula = drawn_rule(draw, size, is_table, 1 + number % 3)
                    paper = rule(formula, size)
                    self.shown(True, formula, size, paper)
                    lists = [[[weight, [list(word) for word in traces], [list(word) for word in words]] for weight, traces, words in makings]
                             for makings in paper.lots]
                    self.shown(True, formula, size, Made(lots=lists))
                    self.shown(True, formula, size, Made([draw.sample(makings, len(makings)) for makings in lists]))
                    self.shown(False, formula, size, Made(lists + [[]]))
                    self.shown(False, formula, size + 1, paper)
                    self.shown(False, formula.times(2), size, paper)
                    self.shown(False, Formula(is_table, []), size, paper)
                    self.shown(True, formula.times(-3), size, Made([[(-3 * weight, traces, words) for weight, traces, words in makings]
                                                                    for makings in lists]))

    def test_words_in_any_order(self):
        """Words exchanged, traces begun anew, in any order, and told again: just what they make counts."""
        draw = random.Random(2)
        for size in (1, 2, 3):
            for is_table in (True, False):
                formula = drawn_rule(draw, size, is_table, 2)
                paper = rule(formula, size)
                lists = []
                for makings in paper.lots:
                    told = []
                    for weight, traces, words in makings:
                        told.append((weight - 2, [word[1:] + word[:1] for word in draw.sample(traces, len(traces))], draw.sample(words, size + 1)))
                        told += [(1, traces, words[::-1]), (1, traces[::-1], words)]
                    lists.append([one for one in told if one[0] != 0])
                self.shown(True, formula, size, Made(lists))

    def test_bent(self):
        draw = random.Random(3)
        for size in (1, 2, 3):
            for is_table in (True, False):
                for letters in ("abc", "ab"):
                    formula = drawn_rule(draw, size, is_table, 1, letters)
                    for lists in bent_lists(rule(formula, size).lots):
                        self.made(formula, size, lists)

    def test_the_mark(self):
        """Once in each making of a table formula's lot, in a word or in a trace; in none of a number formula's."""
        square = cayley([["a"], ["a"]])
        self.shown(True, square, 2, Made([[(2, [], [["*"], ["a"], ["a"]])]]))
        for words in ([["a"], ["a"], ["a"]], [["*"], ["*"], ["a"]], [["a"], ["a"]], [["*", "a"], ["a"]], [["*"], ["a"], ["a"], ["a"]],
                      [["*", "a"], ["a"], []], [["*'"], ["a"], ["a"]], [["**"], ["a"], ["a"]], [["+"], ["a"], ["a"]]):
            self.shown(False, square, 2, Made([[(2, [], words)]]))
        number = one_rule([["a"], ["a"], ["b"]])
        self.shown(True, number, 2, Made([[(2, [], [["b"], ["a"], ["a"]])]]))
        self.shown(False, number, 2, Made([[(2, [], [["*"], ["a"], ["a"]])]]))
        self.shown(False, number, 2, Made([[(2, [["*"]], [["b"], ["a"], ["a"]])]]))
        # The mark in a trace: the trace of * by itself, beside a rule, is the rule times the unit table.
        beside = one_rule([["a"], ["b"]]) * Formula.of([])
        self.shown(True, beside, 1, Made([[(1, [["*"]], [["a"], ["b"]])]]))
        self.shown(False, beside, 1, Made([[(1, [], [["*", "a"], ["b"]])]]))
        self.shown(True, one_rule([["a"], ["b"]]) * Formula.of(["c"]), 1, Made([[(1, [["c", "*"]], [["b"], ["a"]])]]))

    def test_makings_that_cancel_one_another(self):
        """Each making must be one, even where two with contrary weights bring nothing."""
        square = cayley([["a"], ["a"]])
        one = (2, [], [["*"], ["a"], ["a"]])
        self.shown(True, square, 2, Made([[one, (5, [], one[2]), (-5, [], one[2])]]))
        for traces, words in (([[]], one[2]), ([], [["*", "a"], ["a"], []]), ([["b"]], one[2]), ([], [["b"], ["b"], ["b"]]), ([["a"]], one[2]),
                              ([], [["*"], ["a"]]), ([["a"]], [["*"], ["a"]]), ([], [["*"], ["a"], ["a'"]]), ([["*"]], [["a"], ["a"]]),
                              ([["a", "a"]], [["*"], [], []]), ([], [["*", "a", "a"], [], []])):
            self.shown(False, square, 2, Made([[one, (5, traces, words), (-5, traces, words)]]))
        self.shown(False, square, 2, Made([[one, (0, [], one[2])]]))

    def test_many_makings(self):
        square = cayley([["a"], ["a"]])
        one = (2, [], [["*"], ["a"], ["a"]])
        self.shown(True, square.times(720), 2, Made([[one] * 720]))
        self.shown(False, square.times(721), 2, Made([[one] * 721]))
        pair = [one, (-2,) + one[1:]]
        self.shown(True, square, 2, Made([pair * 359 + [one]]))
        self.shown(False, square, 2, Made([pair * 360 + [one]]))
        self.shown(True, Formula(True, []), 2, Made([]))
        self.shown(False, Formula(True, []), 2, Made([pair]))

    def test_many_unlike_makings_in_a_short_time(self):
        letters = list("abcdef")
        for size in (1, 2, 3, 4, 5):
            orders = [list(order) for order in permutations(letters)]
            told = [(1, [], [[letter] for letter in order[:size]] + [order[size:]]) for order in orders]
            formula = Formula(False, [])
            for cut in range(0, 720, 120):
                part = Formula(False, [])
                for _, _, words in told[cut:cut + 120:12]:
                    part = part + one_rule(words)
                formula = formula + part
            start = time.process_time()
            self.shown(True, formula, size, Made([told[::12]]))
            self.shown(False, formula, size, Made([told]))
            self.assertLess(time.process_time() - start, 2)

    def test_lots_exchanged(self):
        draw = random.Random(4)
        formula = drawn_rule(draw, 1, True, 1, "a") + drawn_rule(draw, 1, True, 1, "b") + drawn_rule(draw, 1, True, 1, "cd")
        lists = rule(formula, 1).lots
        self.assertGreater(len(lists), 2)
        for order in permutations(lists):
            self.made(formula, 1, order)
        self.shown(False, formula, 1, Made((lists,)))

    def test_lots_without_letters(self):
        """They are never made: neither by a list of no makings."""
        for formula in (Formula(False, [(3, [], None)]), Formula(True, [(3, [], [])])):
            for lists in ([], [[]], [[(3, [], [[], []])]], [[(3, [["*"]], [])]], [[(3, [], [["*"]])]], [[(3, [], [])]], [[(3, [], [["*"], []])]]):
                for size in (1, 2, 8):
                    self.shown(False, formula, size, Made(lists))
        both = one_rule([["a"], ["b"]]) + Formula(False, [(1, [], None)])
        makings = [(1, [], [["a"], ["b"]])]
        for lists in ([[], makings], [makings], [makings, []], [makings, makings]):
            self.shown(False, both, 1, Made(lists))


class ShowsDiffersTest(CheckCase):
    def test_right_ones_and_bent(self):
        draw = random.Random(5)
        for is_table in (True, False):
            for number in range(8):
                formula = drawn_formula(draw, is_table, 3, 3, "ab"[:1 + number % 2], False)
                if all(len(row) <= 5 for row, _ in own_lots(formula)) and fits(formula):
                    for size in (1, 2, 3):
                        paper = rule(formula, size)
                        self.shown(True, formula, size, paper)
                        if not paper:
                            self.shown(True, formula, size, Differs([[letter, [list(row) for row in table]] for letter, table in paper.tables]))
                            for tables in bent_tables(paper.tables, size):
                                self.differs(formula, size, tables)
                            self.differs(formula, size + 1, paper.tables)

    def test_drawn_tables(self):
        draw = random.Random(6)
        for is_table in (True, False):
            formula = drawn_rule(draw, 2, is_table, 2, "abc")
            for size in (1, 2, 3, 4):
                for great in (1, 5, GREAT):
                    self.differs(formula, size, [(letter, drawn_table(draw, size, great)) for letter in formula.letters])
                self.differs(formula, size, [])

    def test_values_that_are_bent(self):
        for formula, size in ((Formula.read("table : 1 a b / -1 b a"), 2), (one_rule([["a"], ["b"]]), 2), (Formula.read("number : 3"), 8)):
            paper = rule(formula, size)
            self.shown(True, formula, size, paper)
            for value in [*ODD_VALUES, *ODD_PARTS, paper.parts, paper.tables, Paper("differs", paper.tables), Denial("differs", paper.tables),
                          Something(paper.tables, ()), Nothing(()), MadeTied(()), Central(()), Differs, Made, Made(paper.tables)]:
                self.shown(False, formula, size, value)

    def test_classes_below(self):
        class BelowMade(Made):
            pass

        class BelowDiffers(Differs):
            pass

        formula = Formula(True, [])
        self.shown(True, formula, 1, Made([]))
        self.shown(False, formula, 1, BelowMade([]))
        self.shown(True, Formula.read("table : 1"), 1, Differs([]))
        self.shown(False, Formula.read("table : 1"), 1, BelowDiffers([]))
        self.assertIs(shows_rule(value=Made([]), size=1, formula=formula), True)


class ShowsTurnedTest(CheckCase):
    def shown(self, want, formula, size, value):
        self.assertIs(shows_turned_rule(formula, size, value), want)

    def test_right_ones(self):
        draw = random.Random(7)
        for size in (1, 2, 3, 4):
            for is_table in (True, False):
                formula = drawn_tied_rule(draw, size, is_table)
                paper = turned_rule(formula, size)
                self.shown(True, formula, size, paper)
                self.shown(True, formula, size, MadeTied(lots=[[[weight, list(row), list(ends)] for weight, row, ends in steps][::-1]
                                                              for steps in paper.lots]))
                self.shown(False, formula.times(2), size, paper)
                self.shown(False, formula, size + 1, paper)
                self.shown(False, formula, size, MadeTied(paper.lots + ((),)))
                self.shown(False, formula, size, MadeTied(paper.lots[1:]))
                self.shown(False, formula, size, Made(paper.lots))

    def test_bent(self):
        draw = random.Random(8)
        for size in (1, 2):
            for is_table in (True, False):
                formula = drawn_tied_rule(draw, size, is_table, 1)
                lists = turned_rule(formula, size).lots
                for at, steps in enumerate(lists):
                    ends = len(steps[0][1])
                    for bent in bent_steps(steps, ends, size) + ODD_PARTS:
                        paper = MadeTied(replaced(lists, at, [bent]))
                        self.shown(is_own_made_tied(formula, size, paper.lots), formula, size, paper)
                for bent in ODD_PARTS + [lists[::-1], (lists,), lists + lists]:
                    paper = MadeTied(bent)
                    self.shown(is_own_made_tied(formula, size, paper.lots), formula, size, paper)

    def test_how_many_steps(self):
        even = Formula.read("table : 1 a / -1 a'")
        one, other = (1, (2, 3, 0, 1), (0, 1)), (-1, (1, 0, 3, 2), (0, 2))
        self.shown(True, even, 1, MadeTied([[one, other]]))
        pair = [one, (-1,) + one[1:]]
        self.shown(True, even.times(315), 1, MadeTied([[one, other] * 315 + [one, (-1,) + one[1:]] * 157]))
        self.shown(False, even, 1, MadeTied([pair * 472 + [one, other]]))
        self.shown(True, even, 1, MadeTied([pair * 471 + [one, other]]))

    def test_lots_without_letters(self):
        for formula in (Formula(False, [(3, [], None)]), Formula(True, [(3, [], [])]), Formula.read("number : 1 / 1 ( a a ) / -1 ( a a' )")):
            for lists in ([], [[]], [[], []], [[(3, (1, 0), (0,))]], [[(3, (), ())]]):
                for size in (1, 8):
                    self.shown(False, formula, size, MadeTied(lists))
            self.shown(True, formula, 8, turned_rule(formula, 8))

    def test_tables(self):
        draw = random.Random(9)
        for is_table in (True, False):
            for _ in range(4):
                formula = drawn_tied_rule(draw, 1, is_table, 2, "ab")
                for size in (2, 3):
                    paper = turned_rule(formula, size)
                    if not paper:
                        self.shown(True, formula, size, paper)
                        for tables in bent_tables(paper.tables, size):
                            self.shown(is_own_something(formula, size, Differs(tables).tables), formula, size, Differs(tables))

    def test_other_values(self):
        even = Formula.read("table : 1 a / -1 a'")
        paper = turned_rule(even, 1)
        for value in [*ODD_VALUES, *ODD_PARTS, paper.lots, paper.parts, Paper("madetied", paper.lots), NothingTied(paper.lots[0]),
                      Central(paper.lots), Made(paper.lots), MadeTied, Differs(paper.lots), Denial("differs", ())]:
            self.shown(False, even, 1, value)
        self.assertIs(shows_turned_rule(value=paper, size=1, formula=even), True)

    def test_both_papers(self):
        """A Differs of a formula without turned letters is shown by either function; a Made by one, a MadeTied by the other."""
        apart = Formula.read("table : 1 a b / -1 b a")
        for size in (1, 2):
            for paper in (rule(apart, size), turned_rule(apart, size)):
                self.shown(size == 2 or type(paper) is MadeTied, apart, size, paper)
                self.assertIs(shows_rule(apart, size, paper), size == 2 or type(paper) is Made)


class ShowsCentralTest(CheckCase):
    def shown(self, want, formula, size, value):
        self.assertIs(shows_central(formula, size, value), want)

    def right(self, formula, size, tables):
        return are_own_tables(formula, size, tables) and not is_scalar(own_value(formula.terms, True, dict(tables), size))

    def test_right_ones_and_bent(self):
        draw = random.Random(10)
        for size in (1, 2, 3):
            for _ in range(2):
                formula = drawn_central(draw, size)
                levelled = own_levelled(formula, size)
                paper = central(formula, size)
                self.shown(True, formula, size, paper)
                self.shown(False, formula, size, Made(paper.lots))
                self.assertIs(shows_rule(levelled, size, Made(paper.lots)), True)
                self.shown(False, formula.times(2), size, paper)
                for lists in bent_lists(paper.lots)[::3]:
                    bent = Central(lists)
                    self.shown(is_own_made(levelled, size, bent.lots), formula, size, bent)
                other = changed(formula, {((), ("a", "c")): 1})
                if size > 1:
                    told = central(other, size)
                    for tables in [told.tables] + bent_tables(told.tables, size):
                        bent = Differs(tables)
                        self.shown(self.right(other, size, bent.tables), other, size, bent)

    def test_tables_of_all_letters(self):
        """Letters that stand beside empty words alone have tables, too, whatever they are."""
        formula = Formula.read("table : 1 a / 7 ( b )")
        unit, line, zeros = [[1, 0], [0, 1]], [[1, 0], [0, 2]], [[0, 0], [0, 0]]
        for table in (unit, line, zeros, [[5, GREAT], [-1, 0]]):
            self.shown(True, formula, 2, Differs([("a", line), ("b", table)]))
            self.shown(False, formula, 2, Differs([("a", unit), ("b", table)]))
            self.shown(False, formula, 2, Differs([("a", table)]))
        self.shown(False, formula, 2, Differs([("a", line)]))
        self.shown(True, Formula.read("table : 2 ( a )"), 5, Central([]))
        self.shown(False, Formula.read("table : 2 ( a )"), 5, Central([[]]))
        self.shown(False, Formula.read("table : 2 ( a )"), 2, Differs([("a", line)]))

    def test_other_values(self):
        formula = Formula.of(["a"])
        self.shown(True, formula, 1, Central([[(-1, [], [["a"], ["*"]])]]))
        for value in [*ODD_VALUES, *ODD_PARTS, [[(-1, [], [["a"], ["*"]])]], Paper("central", [[(-1, [], [["a"], ["*"]])]]),
                      Made([[(-1, [], [["a"], ["*"]])]]), MadeTied([[(-1, [], [["a"], ["*"]])]]), Central, Differs([])]:
            self.shown(False, formula, 1, value)
        self.assertIs(shows_central(value=central(formula, 2), size=2, formula=formula), True)


class ErrorsTest(CheckCase):
    def test_formulas_and_sizes(self):
        formula = Formula.of(["a", "b"])
        for function in (shows_rule, shows_turned_rule, shows_central):
            for value in NO_FORMULAS:
                self.refused(BadFormula("formula"), function, value, 2, Made([]))
                self.refused(BadFormula("formula"), function, value, 0, None)
            for size in NO_SIZES + ODD_VALUES:
                self.refused(BadNumber("size"), function, formula, size, None)
                self.refused(BadNumber("size"), function, formula, size, Differs([]))

    def test_as_of_the_functions(self):
        """The errors of the function of the paper, whatever the value is."""
        draw = random.Random(11)
        cuts = [[["a"] * part for part in cut] for cut in ((6,), (5, 1), (4, 2))]
        formulas = [Formula.of(["a'"]), Formula(False, [(1, [["a", "b'"]], None)]), Formula.of(["a"] * 6), Formula.of(list("abcde")),
                    Formula(False, [(1, [list("abcdef")], None)]), Formula(False, [(1, [list("abcdefg")], None)]),
                    Formula(False, [(1, traces, None) for traces in cuts]), Formula(False, [(3, [], None)]),
                    Formula(True, [(1, [["a", "b'"]], [])]), Formula.of(["a"] * 9) + Formula.of(["b'"]), Formula(True, [(1, [["a"] * 9], [])])]
        for formula in formulas + [drawn_rule(draw, 2, True), drawn_rule(draw, 2, False)]:
            for function, shows in ((rule, shows_rule), (turned_rule, shows_turned_rule), (central, shows_central)):
                for size in (1, 2, 9):
                    try:
                        paper = function(formula, size)
                    except (BadFormula, BadNumber, Misfit, TooMany) as error:
                        for value in (None, Made([]), MadeTied([]), Central([]), Differs([]), 7):
                            self.refused(error, shows, formula, size, value)
                    else:
                        self.assertIs(shows(formula, size, paper), True)
                        self.assertIs(shows(formula, size, None), False)

    def test_nothing_is_raised(self):
        """Any value, nested as deep as may be, or as long."""
        deep = ()
        for _ in range(58):
            deep = (deep,)
        formula = drawn_rule(random.Random(12), 2, True)
        values = [deep, (deep, deep), "a" * 100000, ("a" * 100000,), (("a",) * 10000,), ((1, deep, deep),), (((1, (), deep),),),
                  (((1, (("a",) * 10000,), (("a",), ("*",), ("b",))),),), ((GREAT, (), ((),) * 10000),), tuple(range(1000)),
                  (("a", ((1,) * 1000,) * 1000),), (((1, 2),) * 3,) * 3, drawn_row(random.Random(1), 6)]
        apart = Formula.read("table : 1 a b / -1 b a")
        for paper in [kind(value) for value in values for kind in (Made, MadeTied, Central, Differs)]:
            for size in (1, 2, 8):
                self.assertIs(shows_rule(formula, size, paper), False)
                self.assertIs(shows_central(formula, size, paper), False)
                self.assertIs(shows_turned_rule(apart, size, paper), False)
