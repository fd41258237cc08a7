"""The checks of papers about what commutes: right ones, and ones bent at each place."""

import random

from fromsize.check_classes import shows_commutes
from fromsize.classes import Clash, Commutes, class_sum, commutes
from fromsize.crossings import crossing
from fromsize.errors import BadNumber, BadSum
from fromsize.papers import Denial, Paper
from fromsize.sums import Sum
from fromsize.written import Nothing, Something
from tests.own import (GREAT, NO_SIZES, ODD_VALUES, Case, as_sum, drawn_row, drawn_sum, drawn_tops, numbers_of, own_stood,
                       rows_of, sizes_of)
from tests.test_check_written import bent_steps, with_item
from tests.test_classes import as_terms, own_difference, own_lengths


def is_right_setting(value, wires, size):
    return type(value) is tuple and len(value) == wires and all(type(k) is int and 0 <= k < size for k in value)


def is_right(total, size, paper):
    """Whether a Commutes of lists of right steps, or any Clash, is right: worked out by the test."""
    if type(paper) is Commutes:
        return len(paper.steps) == total.wires - 1 and all(
            len(steps) <= 720 and own_stood(steps) == own_difference(total, top) for top, steps in enumerate(paper.steps))
    if type(paper.top) is not int or not 0 <= paper.top < total.wires - 1:
        return False
    if not all(is_right_setting(setting, total.wires, size) for setting in (paper.tops, paper.bottoms)):
        return False
    return paper.bottoms in numbers_of(as_terms(own_difference(total, paper.top)), paper.tops)


def drawn_sums(draw):
    """Class sums, single wirings and drawn sums of one wire to six."""
    found = [Sum(wires, []) for wires in (1, 2, 6)]
    for wires in range(1, 7):
        found += [class_sum(wires, draw.choice(own_lengths(wires))), Sum.of(drawn_row(draw, wires)), drawn_sum(draw, wires, 4)]
        found.append(class_sum(wires, [wires]).times(GREAT) + crossing(drawn_row(draw, wires), drawn_tops(draw, wires, wires)))
    return found


class ShowsTest(Case):
    def shown(self, want, total, size, value):
        self.assertIs(shows_commutes(total, size, value), want)

    def test_papers_of_commutes(self):
        draw = random.Random(1)
        for total in drawn_sums(draw):
            for size in sizes_of(total.wires):
                paper = commutes(total, size)
                self.shown(True, total, size, paper)
                if paper:
                    self.shown(True, total, size, Commutes([[[w, list(r), list(t)] for w, r, t in steps] for steps in paper.steps]))
                    self.shown(True, total, size, Commutes(steps=tuple(steps[::-1] for steps in paper.steps)))
                    self.shown(False, total, size, Clash(0, (0,) * total.wires, (0,) * total.wires))
                else:
                    again = Clash(bottoms=list(paper.bottoms), tops=list(paper.tops), top=paper.top)
                    self.shown(True, total, size, again)
                    self.shown(False, total, size, Commutes([()] * (total.wires - 1)))

    def test_all_class_sums_and_wirings(self):
        for wires in range(1, 7):
            for lengths in own_lengths(wires):
                for size in sizes_of(wires):
                    self.shown(True, class_sum(wires, lengths), size, Commutes([[]] * (wires - 1)))
        for wires in range(1, 5):
            for row in rows_of(wires):
                for size in range(1, wires + 2):
                    self.shown(True, Sum.of(row), size, commutes(Sum.of(row), size))

    def test_other_steps(self):
        """Any wirings, tops that are no falls, steps told again, moved to another top: just what they stand for counts."""
        draw = random.Random(2)
        for wires in range(2, 7):
            for size in range(1, wires):
                for _ in range(4):
                    total = class_sum(wires, draw.choice(own_lengths(wires)))
                    if wires > 2:
                        total = total + crossing(drawn_row(draw, wires), drawn_tops(draw, wires, size + 1))
                    paper = commutes(total, size)
                    step = (draw.choice((-2, 1)), drawn_row(draw, wires), drawn_tops(draw, wires, size + 1))
                    turned = (-step[0],) + step[1:]
                    at = draw.randrange(wires - 1)
                    more = paper.steps[at] + (step,)
                    self.shown(False, total, size, Commutes(with_item(paper.steps, at, more)))
                    self.shown(True, total, size, Commutes(with_item(paper.steps, at, (turned,) + more)))
                    bent = Commutes(paper.steps[::-1])
                    self.shown(is_right(total, size, bent), total, size, bent)

    def test_bent_steps(self):
        draw = random.Random(3)
        for wires in (3, 4):
            for size in range(1, wires - 1):
                total = Sum(wires, [])
                while commutes(total, size).steps == ((),) * (wires - 1):
                    total = crossing(drawn_row(draw, wires), drawn_tops(draw, wires, size + 1)).times(3)
                paper = commutes(total, size)
                self.shown(True, total, size, paper)
                for at, steps in enumerate(paper.steps):
                    if steps:
                        for bent in bent_steps(steps, wires, size):
                            self.shown(False, total, size, Commutes(with_item(paper.steps, at, bent)))
                    for bent in (None, 1, "", "a", {}, paper, iter(())):
                        self.shown(False, total, size, Commutes(with_item(paper.steps, at, bent)))

    def test_bent_lists(self):
        one = Sum.of((1, 0, 2))
        lists = commutes(one, 1).steps
        for bent in [lists[:1], lists[1:], lists + ((),), (), lists + lists, lists[::-1], lists[1], None, 0, "", "ab", {}, {0: (), 1: ()},
                     Commutes(lists), one, *ODD_VALUES]:
            self.shown(False, one, 1, Commutes(bent))
        self.shown(True, Sum(1, []), 4, Commutes([]))
        self.shown(False, Sum(1, []), 4, Commutes([[]]))
        self.shown(False, Sum(1, []), 4, Commutes(None))
        self.shown(True, Sum(3, []), 4, Commutes([[], ()]))
        self.shown(False, Sum(3, []), 4, Commutes([[]]))
        self.shown(False, Sum(3, []), 4, Commutes([[], [], []]))

    def test_how_many_steps(self):
        one = Sum.of((1, 0, 2))
        lists = commutes(one, 1).steps
        pair = ((1, (0, 1, 2), (0, 1)), (-1, (0, 1, 2), (0, 1)))
        for at in (0, 1):
            rest = 720 - len(lists[at])
            told = lists[at] + pair * (rest // 2)
            self.shown(True, one, 1, Commutes(with_item(lists, at, told)))
            self.shown(False, one, 1, Commutes(with_item(lists, at, told + pair)))
        many = crossing((2, 0, 1), (0, 2)) - crossing((1, 2, 0), (1, 2))
        self.assertEqual(as_terms(own_difference(one, 1)), [(1, (2, 0, 1)), (-1, (1, 2, 0))])
        self.assertEqual(many, Sum.of((2, 0, 1)) - Sum.of((1, 2, 0)))
        halves = ((1, (2, 0, 1), (0, 2)), (-1, (1, 2, 0), (1, 2)))
        self.shown(True, one.times(360), 1, Commutes([[], halves * 360]))
        self.shown(False, one.times(361), 1, Commutes([[], halves * 361]))
        more = halves * 360 + ((1, (2, 0, 1), (0, 2)),)
        self.assertEqual(len(more), 721)
        self.shown(False, one.times(360), 1, Commutes([[], more]))

    def test_clashes(self):
        """Every top, every pair of settings of a size: right just where the difference leads them."""
        draw = random.Random(4)
        for total in [Sum.of((1, 0, 2)), Sum.of((1, 2, 0)), class_sum(3, [1, 2]), drawn_sum(draw, 3, 4), Sum.of((1, 0)), Sum.of((0,))]:
            for size in (1, 2, 3):
                settings = [()]
                for _ in range(total.wires):
                    settings = [row + (k,) for row in settings for k in range(size)]
                for top in range(-1, total.wires + 1):
                    for tops in settings:
                        for bottoms in settings:
                            paper = Clash(top, tops, bottoms)
                            self.shown(is_right(total, size, paper), total, size, paper)

    def test_another_top(self):
        total = Sum.of((1, 0, 3, 2)) + Sum.of((1, 2, 3, 0))
        tops = (0, 1, 2, 3)
        told = {top: list(numbers_of(as_terms(own_difference(total, top)), tops)) for top in range(3)}
        self.assertEqual(commutes(total, 4).top, 0)
        for top in (0, 1, 2):
            self.shown(True, total, 4, Clash(top, tops, told[top][0]))
            self.shown(False, total, 4, Clash(3, tops, told[top][0]))
            self.shown(False, total, 4, Clash(-1, tops, told[top][0]))

    def test_bent_clashes(self):
        one = Sum.of((1, 0, 2))
        right = [1, (0, 1, 1), (1, 1, 0)]
        self.shown(True, one, 2, Clash(*right))
        self.shown(True, one, GREAT, Clash(1, (GREAT - 1, 5, 5), (5, 5, GREAT - 1)))
        self.shown(False, one, GREAT, Clash(1, (GREAT, 5, 5), (5, 5, GREAT)))
        for top in [True, False, None, "1", 1.0, (1,), -1, 0, 2, 3, GREAT, -GREAT, *ODD_VALUES]:
            self.shown(False, one, 2, Clash(top, *right[1:]))
        for setting in [(0, 1), (0, 1, 1, 0), (0, 1, 2), (0, 1, -1), (0, True, 1), (False, 1, 1), ("0", 1, 1), (0, 1, None), (),
                        "011", (0, (1,), 1), None, 3, {0: 1}, (0.0, 1, 1), one, *ODD_VALUES]:
            self.shown(False, one, 2, Clash(1, setting, right[2]))
            self.shown(False, one, 2, Clash(1, right[1], setting))
            self.shown(False, one, 2, Clash(1, setting, setting))
        self.shown(False, one, 1, Clash(*right))
        self.shown(False, one, 2, Clash(1, right[2], right[2]))
        self.shown(True, one, 2, Clash(1, right[2], right[1]))

    def test_other_values(self):
        one = Sum.of((1, 0, 2))
        lists, right = commutes(one, 1).steps, (1, (0, 1, 1), (1, 1, 0))

        class BelowCommutes(Commutes):
            pass

        class BelowClash(Clash):
            pass

        class Alike:
            word, parts, steps = "commutes", (lists,), lists

        for value in [lists, list(lists), (lists,), right, Paper("commutes", lists), Denial("commutes", lists), Nothing(lists),
                      Paper("clash", *right), Denial("clash", *right), Something(*right[1:]), BelowCommutes(lists),
                      BelowClash(*right), Commutes, Clash, Alike(), one, *ODD_VALUES]:
            self.shown(False, one, 1, value)
            self.shown(False, one, 2, value)
            self.shown(False, Sum(1, []), 2, value)
        self.assertIs(shows_commutes(value=Commutes(lists), size=1, total=one), True)

    def test_as_the_document_tells_it(self):
        one = Sum.of((1, 0, 2))
        self.assertEqual(own_stood([(1, (2, 0, 1), (0, 2))]), {(2, 0, 1): 1, (1, 0, 2): -1})
        self.assertEqual(own_stood([(-1, (1, 2, 0), (1, 2))]), {(1, 2, 0): -1, (1, 0, 2): 1})
        self.assertEqual(as_sum(3, own_difference(one, 0)), Sum(3, []))

    def test_refused(self):
        one = Sum.of((1, 0, 2))
        for value in [((1, 0),), (1, 0), str(one), one.terms, Sum, *ODD_VALUES]:
            self.refused(BadSum("total"), shows_commutes, value, 2, None)
            self.refused(BadSum("total"), shows_commutes, value, 0, commutes(one, 2))
        for size in NO_SIZES + ODD_VALUES:
            self.refused(BadNumber("size"), shows_commutes, one, size, None)
            self.refused(BadNumber("size"), shows_commutes, one, size, commutes(one, 2))
