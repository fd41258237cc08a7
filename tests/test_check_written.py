"""The checks of papers about writings: right ones, and ones bent at each place."""

import random

from fromsize.check_written import shows_judged, shows_written
from fromsize.crossings import crossing
from fromsize.errors import BadNumber, BadSum
from fromsize.papers import Denial, Paper
from fromsize.sums import Sum
from fromsize.written import Nothing, Something, Written, judged, written, written_by
from tests.own import (GREAT, NO_SIZES, ODD_VALUES, Case, as_sum, drawn_row, drawn_sum, drawn_tops, own_longest, own_stood,
                       sizes_of)


def with_item(row, at, item):
    return row[:at] + (item,) + row[at + 1:]


def bent_steps(steps, wires, size):
    """Lists that are no right ones, or stand for something else."""
    weight, row, tops = steps[0]
    rest = steps[1:]
    told = [steps[1:], steps + ((1, row, tops),), steps + steps[:1]]
    # What would stand for the right sum, were they steps.
    told += [steps + ((0, row, tops),), ((True, row, tops), (weight - 1, row, tops)) + rest, (steps,), steps + ((),)]
    heads = [(weight + 1, row, tops), (-weight, row, tops), (0, row, tops), (True, row, tops), (None, row, tops),
             (str(weight), row, tops), (weight, row[::-1], tops[:-1]), (weight, row, tops[:-1]), (weight, row, tops[::-1]),
             (weight, row, tops[:1] + tops), (weight, row, with_item(tops, 0, False)), (weight, row, with_item(tops, -1, wires)),
             (weight, row, with_item(tops, 0, -1)), (weight, row, ()), (weight, row, None), (weight, row, "01"),
             (weight, row[:-1], tops), (weight, row + (wires,), tops), (weight, with_item(row, 0, row[1]), tops),
             (weight, with_item(row, row.index(1), True), tops), (weight, None, tops), (weight, "0", tops), (weight, row),
             (weight, row, tops, 0), (), None, 5, "abc", {}, (row, weight, tops), (weight, tops, row), (float(weight), row, tops)]
    if size + 1 < wires:
        heads.append((weight, row, tuple(range(size + 2))))
    swapped = list(row)
    swapped[tops[0]], swapped[tops[1]] = swapped[tops[1]], swapped[tops[0]]
    heads.append((weight, tuple(swapped), tops))
    return told + [(head,) + rest for head in heads]


class ShowsWrittenTest(Case):
    def shown(self, want, total, size, value):
        self.assertIs(shows_written(total, size, value), want)

    def sums(self):
        draw = random.Random(1)
        found = [Sum.of((2, 1, 0)), Sum.of((3, 1, 2, 0)).times(-2), Sum.of((1, 0)), Sum.of((4, 3, 2, 1, 0)).times(GREAT)]
        return found + [drawn_sum(draw, wires, 4) for wires in (1, 2, 3, 4, 5, 6) for _ in range(3)]

    def test_right_ones(self):
        for total in self.sums():
            for size in sizes_of(total.wires):
                made = written_by(total, size)
                self.shown(True, total, size, made)
                self.shown(True, total, size, Written(made.writing, made.steps[::-1]))
                self.shown(True, total, size, Written(steps=[list(step) for step in made.steps], writing=made.writing))
                self.shown(True, total, size, Written(made.writing, [[w, list(r), list(t)] for w, r, t in made.steps]))
                parts = made.steps + tuple((-w, r, t) for w, r, t in made.steps) + made.steps
                self.shown(len(parts) <= 720, total, size, Written(made.writing, parts))

    def test_other_steps(self):
        """Any wirings, tops that are no falls, steps told again: just what they stand for counts."""
        draw = random.Random(2)
        for wires in range(2, 7):
            for size in range(1, wires):
                for _ in range(6):
                    total = drawn_sum(draw, wires, 4)
                    writing = written(total, size)
                    steps = [(draw.choice((-2, -1, 1, 3)), drawn_row(draw, wires), drawn_tops(draw, wires, size + 1))
                             for _ in range(draw.randint(0, 6))]
                    more = as_sum(wires, own_stood(steps))
                    paper = Written(writing, list(written_by(total, size).steps) + steps)
                    self.shown(True, total + more, size, paper)
                    self.shown(len(more) == 0, total, size, paper)

    def test_bent_steps(self):
        for total in self.sums():
            for size in range(1, total.wires):
                made = written_by(total, size)
                if made.steps:
                    for steps in bent_steps(made.steps, total.wires, size):
                        self.shown(False, total, size, Written(made.writing, steps))

    def test_bent_lists(self):
        over = Sum.of((2, 1, 0))
        made = written_by(over, 2)
        for steps in [None, 0, "", "a", {}, {1: 2}, {1}, made, made.writing, iter(made.steps), range(0), True, *ODD_VALUES]:
            self.shown(False, over, 2, Written(made.writing, steps))
            self.shown(False, Sum(3, []), 2, Written(Sum(3, []), steps))
            self.shown(False, over, 3, Written(over, steps))
        self.shown(True, over, 3, Written(over, []))
        self.shown(True, over, GREAT, Written(over, ()))
        self.shown(False, over, 3, Written(over, made.steps))

    def test_bent_writings(self):
        for total in self.sums():
            for size in sizes_of(total.wires):
                made = written_by(total, size)
                first = tuple(range(total.wires))
                others = [made.writing + Sum.of(first), made.writing.times(2) + Sum.of(first).times(10 ** 40), made.writing.terms,
                          str(made.writing), None, (), made, made.writing.beside(Sum.of((0,))) if total.wires < 6 else 3]
                for writing in others + ODD_VALUES:
                    self.shown(False, total, size, Written(writing, made.steps))

    def test_a_wiring_that_is_not_kept(self):
        for row in ((1, 0), (2, 1, 0), (0, 3, 2, 1), (5, 4, 3, 2, 1, 0)):
            total = Sum.of(row)
            for size in range(1, len(row) + 1):
                self.shown(size >= own_longest(row), total, size, Written(total, []))
        # A step may bring the wiring back, but then it is none of a writing.
        over = Sum.of((2, 1, 0))
        self.shown(False, over - crossing((2, 1, 0), (0, 1, 2)), 2, Written(over, [(-1, (2, 1, 0), (0, 1, 2))]))

    def test_how_many_steps(self):
        over = Sum.of((2, 1, 0))
        made = written_by(over, 2)
        pair = ((1, (0, 1, 2), (0, 1, 2)), (-1, (0, 1, 2), (0, 1, 2)))
        self.shown(True, over.times(720), 2, Written(made.writing.times(720), made.steps * 720))
        self.shown(False, over.times(721), 2, Written(made.writing.times(721), made.steps * 721))
        self.shown(True, over, 2, Written(made.writing, made.steps + pair * 359))
        self.shown(False, over, 2, Written(made.writing, made.steps + pair * 360))
        six = (5, 4, 3, 2, 1, 0)
        for size in (1, 3, 5):
            steps = ((1, six, tuple(range(size + 1))),) * 720
            total = crossing(six, tuple(range(size + 1))).times(720)
            self.assertIs(shows_judged(total, size, Nothing(steps)), True)
            self.assertIs(shows_judged(total, size, Nothing(steps + steps[:1])), False)

    def test_other_classes(self):
        over = Sum.of((2, 1, 0))
        made = written_by(over, 2)

        class Below(Written):
            pass

        class Alike:
            word, parts, writing, steps = made.word, made.parts, made.writing, made.steps

        for value in [made.parts, list(made.parts), made.writing, made.steps, Paper("written", *made.parts),
                      Denial("written", *made.parts), Nothing(made.steps), Something((0, 0, 0), (0, 0, 0)), Written, Alike(),
                      Below(*made.parts), *ODD_VALUES]:
            self.shown(False, over, 2, value)
        self.assertIs(shows_written(value=made, size=2, total=over), True)

    def test_refused(self):
        total = Sum.of((2, 1, 0))
        for function in (shows_written, shows_judged):
            for value in [((2, 1, 0),), str(total), total.terms, *ODD_VALUES]:
                self.refused(BadSum("total"), function, value, 2, None)
                self.refused(BadSum("total"), function, value, 0, None)
            for size in NO_SIZES + ODD_VALUES:
                self.refused(BadNumber("size"), function, total, size, None)
                self.refused(BadNumber("size"), function, total, size, written_by(total, 2))


class ShowsJudgedTest(Case):
    def shown(self, want, total, size, value):
        self.assertIs(shows_judged(total, size, value), want)

    def test_right_ones(self):
        draw = random.Random(3)
        for wires in range(1, 7):
            sums = [Sum(wires, []), drawn_sum(draw, wires, 4)]
            sums += [crossing(drawn_row(draw, wires), drawn_tops(draw, wires, many)) for many in range(1, wires + 1)]
            for total in sums:
                for size in sizes_of(wires):
                    paper = judged(total, size)
                    self.shown(True, total, size, paper)
                    if paper:
                        self.shown(True, total, size, Nothing([list(step) for step in paper.steps]))
                    else:
                        self.shown(True, total, size, Something(bottoms=list(paper.bottoms), tops=list(paper.tops)))
                    other = Something((0,) * wires, (0,) * wires) if paper else Nothing([])
                    self.shown(False, total, size, other)

    def test_bent_steps(self):
        draw = random.Random(4)
        for wires in range(2, 6):
            for size in range(1, wires):
                total = crossing(drawn_row(draw, wires), drawn_tops(draw, wires, size + 1)).times(3)
                made = judged(total, size)
                for steps in bent_steps(made.steps, wires, size):
                    self.shown(False, total, size, Nothing(steps))
                for steps in [*ODD_VALUES, made.steps[0], made]:
                    self.shown(False, total, size, Nothing(steps))
                    self.shown(False, Sum(wires, []), size, Nothing(steps))

    def test_bent_settings(self):
        total = Sum.of((2, 1, 0)) - Sum.of((0, 1, 2))
        right = [(0, 0, 1), (1, 0, 0)]
        self.shown(True, total, 2, Something(*right))
        self.shown(True, total, GREAT, Something((GREAT - 1, 7, 3), (3, 7, GREAT - 1)))
        self.shown(False, total, GREAT, Something((GREAT, 7, 3), (3, 7, GREAT)))
        for value in [(0, 0), (0, 0, 0, 1), (0, 0, 2), (0, 0, -1), (0, 0, True), (False, 0, 1), (0, 0, "1"), (0, 0, None),
                      (), (0, 0, (1,)), "001", None, 1, {0: 0}, (0, 0, 1.0), Sum.of((0, 1, 2)), *ODD_VALUES]:
            self.shown(False, total, 2, Something(value, right[1]))
            self.shown(False, total, 2, Something(right[0], value))
            self.shown(False, total, 2, Something(value, value))
        self.shown(False, total, 2, Something((1, 0, 0), (1, 0, 1)))
        self.shown(False, total, 2, Something((0, 1, 0), (0, 1, 0)))
        self.shown(False, total, 1, Something((0, 0, 0), (0, 0, 0)))
        self.shown(False, total, 2, Something((0, 0, 2), (2, 0, 0)))
        self.shown(True, total, 3, Something((0, 0, 2), (2, 0, 0)))

    def test_other_classes(self):
        total = Sum.of((2, 1, 0)) - Sum.of((0, 1, 2))

        class Below(Something):
            pass

        class BelowNothing(Nothing):
            pass

        right = ((0, 0, 1), (1, 0, 0))
        for value in [right, Paper("something", *right), Denial("something", *right), Below(*right), Something, None,
                      Written(total, []), *ODD_VALUES]:
            self.shown(False, total, 2, value)
        for value in [(), Paper("nothing", ()), Denial("nothing", ()), BelowNothing(()), Written(Sum(3, []), ()), Nothing]:
            self.shown(False, Sum(3, []), 2, value)
        self.assertIs(shows_judged(value=Nothing(()), size=2, total=Sum(3, [])), True)
