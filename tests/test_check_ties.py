"""The checks of papers about sums of ties: right ones, and ones bent at each place."""

import random
from itertools import product

from fromsize.check_ties import shows_judged_ties
from fromsize.errors import BadNumber, BadTieSum, Misfit
from fromsize.papers import Denial, Paper
from fromsize.sums import Sum
from fromsize.tie_sums import TieSum
from fromsize.tie_written import NothingTied, SomethingTied, judged_ties, tie_crossing
from fromsize.written import Nothing, Something
from tests.own import GREAT, NO_SIZES, ODD_VALUES, Case
from tests.own_ties import drawn_ends, drawn_plain, drawn_ties, matchings, numbers_taken, own_stood_ties, ties_dict, ties_sum
from tests.test_check_written import with_item
from tests.test_tie_written import sizes_of

ENDS = (2, 4, 6, 8, 10)


def drawn_nothing(draw, ends, size, most=3):
    """A sum that is made of drawn crossings at size + 1 ends, and their steps."""
    steps = []
    for _ in range(draw.randint(1, most)):
        row = drawn_ties(draw, ends)
        steps.append((draw.choice([-5, -1, 1, 2, GREAT]), row, drawn_ends(draw, row, size + 1)))
    return ties_sum(ends, own_stood_ties(steps)), tuple(steps)


def is_step(step, ends, size):
    """Whether a tuple is a step, asked of each of its parts."""
    if len(step) != 3 or type(step[0]) is not int or step[0] == 0:
        return False
    _, row, told = step
    if type(row) is not tuple or any(type(k) is not int for k in row) or row not in matchings(ends):
        return False
    if type(told) is not tuple or len(told) != size + 1 or any(type(k) is not int or k not in range(ends) for k in told):
        return False
    return list(told) == sorted(set(told)) and not any(row[end] in told for end in told)


def bent_steps(steps, ends, size):
    """Lists that are bent in one place; what they stand for may be right nevertheless."""
    weight, row, told = steps[0]
    rest = steps[1:]
    found = [rest, steps + steps[:1], steps + ((1, row, told),), steps + ((0, row, told),), (steps,), steps + ((),),
             ((True, row, told), (weight - 1, row, told)) + rest]
    heads = [(weight + 1, row, told), (-weight, row, told), (0, row, told), (True, row, told), (None, row, told),
             (str(weight), row, told), (float(weight), row, told), ((weight,), row, told), (weight, row, told[:-1]),
             (weight, row, told[::-1]), (weight, row, told[:1] + told), (weight, row, told + told[-1:]), (weight, row, ()),
             (weight, row, None), (weight, row, "02"), (weight, row, with_item(told, 0, row[told[-1]])),
             (weight, row, tuple(sorted(told[1:] + (row[told[1]],)))), (weight, row, with_item(told, 0, False)),
             (weight, row, with_item(told, -1, ends)), (weight, row, with_item(told, 0, -1)),
             (weight, row, with_item(told, 0, -ends + told[0])), (weight, row[:-2], told), (weight, row[::-1], told),
             (weight, (1, 0) + tuple(k + 2 for k in row), told), (weight, with_item(row, 0, 0), told),
             (weight, with_item(row, row.index(1), True), told), (weight, None, told), (weight, "10", told), (weight, row),
             (weight, row, told, 0), (), None, 5, "abc", {}, (row, weight, told), (weight, told, row)]
    for place, end in enumerate(told):
        # The end, and another pair's ends in its place: their order may go.
        for other in range(ends):
            heads.append((weight, row, with_item(told, place, other)))
        swapped = list(row)
        one, other = told[place], told[place - 1]
        swapped[one], swapped[other] = row[other], row[one]
        swapped[row[one]], swapped[row[other]] = other, one
        heads.append((weight, tuple(swapped), told))
        heads.append((-weight, tuple(swapped), told))
    return found + [(head,) + rest for head in heads]


class ShowsTest(Case):
    def shown(self, want, total, size, value):
        self.assertIs(shows_judged_ties(total, size, value), want)

    def right(self, total, size, steps):
        if len(steps) > 945 or not all(type(step) is tuple and is_step(step, total.ends, size) for step in steps):
            return False
        return own_stood_ties(steps) == ties_dict(total)

    def test_right_ones(self):
        draw = random.Random(1)
        for ends in ENDS:
            for size in sizes_of(ends):
                sums = [TieSum(ends, []), drawn_plain(draw, ends), drawn_plain(draw, ends, 6, GREAT)]
                if size < ends // 2:
                    sums += [drawn_nothing(draw, ends, size)[0] for _ in range(3)]
                for total in sums:
                    paper = judged_ties(total, size)
                    self.shown(True, total, size, paper)
                    if paper:
                        lists = [[weight, list(row), list(told)] for weight, row, told in paper.steps]
                        self.shown(True, total, size, NothingTied(steps=lists[::-1]))
                    else:
                        self.shown(True, total, size, SomethingTied(setting=list(paper.setting)))
                    self.shown(False, total, size, SomethingTied((0,) * ends) if paper else NothingTied([]))

    def test_other_steps(self):
        """Ends that are no rise, ties in any order, steps told again: just what they stand for counts."""
        draw = random.Random(2)
        for ends in (4, 6, 8, 10):
            for size in range(1, ends // 2):
                for _ in range(4):
                    total, steps = drawn_nothing(draw, ends, size)
                    self.shown(True, total, size, NothingTied(steps))
                    more = judged_ties(total, size).steps
                    turned = tuple((-weight, row, told) for weight, row, told in steps)
                    self.shown(True, total, size, NothingTied(more + steps + turned))
                    self.shown(True, total.times([2]), size, NothingTied(more + steps))
                    self.shown(False, total, size, NothingTied(more + more))
                    self.shown(False, total + TieSum.of(drawn_ties(draw, ends)), size, NothingTied(steps))

    def test_bent_steps(self):
        draw = random.Random(3)
        for ends in (4, 6, 8):
            for size in range(1, ends // 2):
                for _ in range(3):
                    total, steps = drawn_nothing(draw, ends, size)
                    if len(total) > 0:
                        for bent in bent_steps(steps, ends, size):
                            self.shown(self.right(total, size, NothingTied(bent).steps), total, size, NothingTied(bent))

    def test_a_step_of_another_size(self):
        row = (5, 4, 3, 2, 1, 0)
        for many in (1, 2, 3):
            total = tie_crossing(row, tuple(range(many)))
            for size in (1, 2, 3):
                self.shown(size == many - 1, total, size, NothingTied([(1, row, tuple(range(many)))]))

    def test_lists_of_other_kinds(self):
        two = tie_crossing((1, 0, 3, 2), (0, 2))
        step = (1, (1, 0, 3, 2), (0, 2))
        self.shown(True, two, 1, NothingTied([step]))
        for steps in [step, None, 0, "", "abc", {}, {0: step}, {1}, iter([step]), NothingTied([step]), two, [step, None], *ODD_VALUES]:
            self.shown(False, two, 1, NothingTied(steps))
            self.shown(False, TieSum(4, []), 1, NothingTied(steps))
        self.shown(True, TieSum(4, []), GREAT, NothingTied([]))

    def test_how_many_steps(self):
        step = (1, (1, 0, 3, 2), (0, 2))
        two = tie_crossing(*step[1:])
        self.shown(True, two.times([945]), 1, NothingTied([step] * 945))
        self.shown(False, two.times([946]), 1, NothingTied([step] * 946))
        pair = [step, (-1,) + step[1:]]
        self.shown(True, two, 1, NothingTied(pair * 472 + [step]))
        self.shown(False, TieSum(4, []), 1, NothingTied(pair * 473))
        nest = tuple(range(10))[::-1]
        for size in (1, 4):
            told = tuple(range(size + 1))
            total = tie_crossing(nest, told).times([945])
            self.shown(True, total, size, NothingTied([(1, nest, told)] * 945))

    def test_all_settings(self):
        draw = random.Random(4)
        for ends, most in ((2, 3), (4, 3), (6, 2)):
            for _ in range(3):
                total = drawn_plain(draw, ends)
                for size in range(1, most + 1):
                    for setting in product(range(most + 1), repeat=ends):
                        want = max(setting) < size and numbers_taken(total, setting, size) != 0
                        self.shown(want, total, size, SomethingTied(setting))

    def test_bent_settings(self):
        total = TieSum.of((1, 0, 3, 2))
        self.shown(True, total, 2, SomethingTied((0, 0, 1, 1)))
        self.shown(True, total, GREAT, SomethingTied((GREAT - 1, GREAT - 1, 0, 0)))
        self.shown(False, total, GREAT, SomethingTied((GREAT, GREAT, 0, 0)))
        self.shown(False, total, 1, SomethingTied((0, 0, 1, 1)))
        for value in [(0, 0), (0,) * 5, (0,) * 6, (0, 0, 2, 2), (0, 0, -1, -1), (0, 0, True, True), (False,) * 4, ("0",) * 4, (0.0,) * 4,
                      (0, 0, None, None), (), "0000", None, 0, {0: 0}, ((0, 0, 1, 1),), (0, 1, 1, 0), total, *ODD_VALUES]:
            self.shown(False, total, 2, SomethingTied(value))
        taken_with_0 = TieSum.of((1, 0, 3, 2)) - TieSum.of((2, 3, 0, 1))
        self.shown(False, taken_with_0, 2, SomethingTied((0, 0, 0, 0)))
        self.shown(True, taken_with_0, 2, SomethingTied((0, 1, 0, 1)))

    def test_other_values(self):
        two = tie_crossing((1, 0, 3, 2), (0, 2))
        steps = ((1, (1, 0, 3, 2), (0, 2)),)

        class BelowNothing(NothingTied):
            pass

        class BelowSomething(SomethingTied):
            pass

        class Alike:
            word, parts, steps = "nothingtied", (((1, (1, 0, 3, 2), (0, 2)),),), ((1, (1, 0, 3, 2), (0, 2)),)

        setting = (0, 0, 1, 1)
        self.shown(True, two, 1, NothingTied(steps))
        self.shown(True, two, 2, SomethingTied(setting))
        for value in [steps, list(steps), (steps,), setting, Paper("nothingtied", steps), Denial("nothingtied", steps), Nothing(steps),
                      Paper("somethingtied", setting), Denial("somethingtied", setting), Something(setting, setting),
                      BelowNothing(steps), BelowSomething(setting), NothingTied, SomethingTied, Alike(), two, *ODD_VALUES]:
            self.shown(False, two, 1, value)
            self.shown(False, two, 2, value)
            self.shown(False, TieSum(2, []), 2, value)
        self.assertIs(shows_judged_ties(value=NothingTied(steps), size=1, total=two), True)

    def test_refused(self):
        two = TieSum.of((1, 0, 3, 2))
        paper = judged_ties(two, 2)
        for value in [Sum.of((1, 0)), (1, 0, 3, 2), two.terms, str(two), TieSum, *ODD_VALUES]:
            self.refused(BadTieSum("total"), shows_judged_ties, value, 2, None)
            self.refused(BadTieSum("total"), shows_judged_ties, value, 0, paper)
        for size in NO_SIZES + ODD_VALUES:
            self.refused(BadNumber("size"), shows_judged_ties, two, size, None)
            self.refused(BadNumber("size"), shows_judged_ties, two * two, size, paper)
        for total in (two * two, two.times([0, 0, 1]), two + two.times([0, 1])):
            for value in (None, paper, NothingTied([])):
                self.refused(Misfit("weights"), shows_judged_ties, total, 2, value)
