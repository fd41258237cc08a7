"""The checks of papers about measures: right ones, and ones bent at each place."""

import random
import time

from fromsize.check_measures import shows_steady, shows_unchanged
from fromsize.crossings import crossing
from fromsize.errors import BadMeasure
from fromsize.falls import is_kept
from fromsize.measures import Measure, measure_of, measure_of_ties
from fromsize.papers import Denial, Paper
from fromsize.rises import kept_ties, ties_kept
from fromsize.rules import Differs, Made
from fromsize.sums import Sum
from fromsize.tie_sums import TieSum
from fromsize.tie_written import SomethingTied, ties_written
from fromsize.turns import Steady, Turned, steady
from fromsize.unchanged import Changed, Unchanged, unchanged
from fromsize.written import Something, Written, written
from tests.own import GREAT, ODD_VALUES, Case, drawn_row, drawn_sum, rows_of
from tests.own_measures import all_lists, drawn_list, drawn_measure, measure_dict, own_measure_of, own_measure_of_ties
from tests.own_ties import drawn_plain, drawn_ties
from tests.test_check_written import with_item
from tests.test_turns import is_own_turning
from tests.test_unchanged import NO_MEASURES, SEARCHED, is_own_change

SMALL = [(size, many) for size, many in SEARCHED if size ** (2 * many) < 1100]


def is_axis(value, size):
    return type(value) is int and 0 <= value < size


def are_own_units(value, size, many):
    return type(value) is tuple and len(value) == many and all(
        type(place) is tuple and len(place) == 2 and all(is_axis(k, size) for k in place) for place in value)


def bent_units(units, size):
    """Lists of places that are bent in one place; they may be right nevertheless."""
    found = [units[1:], units + units[:1], units[::-1], (units,), (), None, "00", 0, {}, {0: 0}, {1}, True, object(), [list(place) for place in units]]
    for at, place in enumerate(units):
        for other in (place[::-1], place[:1], place + place[:1], (), None, 0, "00", {0: 1, 1: 0}, (place, place), (0, 0), (size - 1, 0), (0, size - 1)):
            found.append(with_item(units, at, other))
        for k in (0, 1):
            for entry in (size, -1, -size, True, False, None, "0", 0.0, (0,), GREAT, 0, size - 1):
                found.append(with_item(units, at, with_item(place, k, entry)))
    return found


ODD_AXES = [None, True, False, -1, 4, 5, GREAT, "0", 0.0, (0,), [0], {}, {0}, object()]


class ShowsUnchangedTest(Case):
    def shown(self, want, measure, value):
        self.assertIs(shows_unchanged(measure, value), want)

    def total(self, measure, total):
        """An Unchanged of this is shown exactly if it is a sum of kept wirings that has the measure."""
        right = type(total) is Sum and total.wires == measure.many and all(is_kept(row, measure.size) for _, row in total.terms)
        right = right and own_measure_of(total, measure.size) == measure_dict(measure)
        self.shown(right, measure, Unchanged(total))

    def changed(self, measure, row, other, units):
        paper = Changed(row, other, units)
        right = is_axis(row, measure.size) and is_axis(other, measure.size) and row != other
        right = right and are_own_units(paper.units, measure.size, measure.many)
        self.shown(right and is_own_change(measure, row, other, paper.units), measure, paper)

    def test_right_ones(self):
        draw = random.Random(1)
        for size, many in SEARCHED:
            for measure in (measure_of(drawn_sum(draw, many), size), drawn_measure(draw, size, many), Measure(size, many, [])):
                paper = unchanged(measure)
                self.shown(True, measure, paper)
                self.assertIs(shows_steady(measure, paper), False)
                if not paper:
                    self.shown(True, measure, Changed(units=[list(place) for place in paper.units], other=paper.other, row=paper.row))
                    self.shown(False, measure, Unchanged(Sum(many, [])))
                elif size > 1:
                    for _ in range(4):
                        row, other = draw.sample(range(size), 2)
                        self.shown(False, measure, Changed(row, other, drawn_list(draw, size, many)))

    def test_all_units_of_all_bases(self):
        draw = random.Random(2)
        for size, many in ((1, 1), (1, 2), (2, 1), (2, 2), (3, 1)):
            for _ in range(4):
                measure = drawn_measure(draw, size, many)
                for row in range(-1, size + 1):
                    for other in range(-1, size + 1):
                        for units in all_lists(size, many):
                            self.changed(measure, row, other, units)

    def test_bent_sums(self):
        draw = random.Random(3)
        for size, many in SMALL:
            total = drawn_sum(draw, many, 4)
            measure = measure_of(total, size)
            told = unchanged(measure).total
            others = [total, told, told + Sum.of(drawn_row(draw, many)), told.times(2), told.times(-1), told.back(), Sum(many, []), TieSum.wired(told),
                      told.terms, str(told), measure, Unchanged(told)]
            others += [Sum(wires, []) for wires in (1, 2, 5, 6)] + [told.beside(Sum.of((0,)))]
            if size < many:
                others += [told + crossing(drawn_row(draw, many), tuple(range(size + 1))), written(total, size + 1)]
            for other in others + ODD_VALUES:
                self.total(measure, other)

    def test_a_wiring_that_is_not_kept(self):
        for row in rows_of(3) + rows_of(4):
            for size in (1, 2, 3):
                measure = measure_of(Sum.of(row), size)
                self.shown(is_kept(row, size), measure, Unchanged(Sum.of(row)))
                self.shown(True, measure, Unchanged(written(Sum.of(row), size)))

    def test_bent_bases_and_units(self):
        draw = random.Random(4)
        for size, many in SMALL:
            if size > 1:
                measure = drawn_measure(draw, size, many) + Measure(size, many, [(5, [(0, 1)] * many)])
                paper = unchanged(measure)
                if not paper:
                    for bent in bent_units(paper.units, size):
                        self.changed(measure, paper.row, paper.other, bent)
                    for bent in ODD_AXES + list(range(-2, size + 2)):
                        self.changed(measure, bent, paper.other, paper.units)
                        self.changed(measure, paper.row, bent, paper.units)
                        self.changed(measure, bent, bent, paper.units)
                    self.changed(measure, paper.units, paper.row, paper.other)

    def test_other_values(self):
        corner = Measure(2, 1, [(1, [(0, 0)])])
        line = measure_of(Sum.of((0,)), 2)

        class BelowChanged(Changed):
            pass

        class BelowUnchanged(Unchanged):
            pass

        self.shown(True, corner, Changed(0, 1, [(1, 0)]))
        self.shown(True, line, Unchanged(Sum.of((0,))))
        for value in [Paper("changed", 0, 1, [(1, 0)]), Denial("changed", 0, 1, [(1, 0)]), BelowChanged(0, 1, [(1, 0)]), (0, 1, ((1, 0),)), Changed,
                      Turned((0, 1), [(0, 0)]), Something((0,), (0,)), SomethingTied((0, 0)), Differs([]), *ODD_VALUES]:
            self.shown(False, corner, value)
        for value in [Paper("unchanged", Sum.of((0,))), BelowUnchanged(Sum.of((0,))), Steady(TieSum.of((1, 0))), Sum.of((0,)), Unchanged,
                      Written(Sum.of((0,)), ()), Made([]), Unchanged(TieSum.of((1, 0))), *ODD_VALUES]:
            self.shown(False, line, value)
        self.assertIs(shows_unchanged(value=Unchanged(Sum.of((0,))), measure=line), True)

    def test_many_entries(self):
        """More than 100 entries, up to 256: nothing is searched, nothing refused."""
        draw = random.Random(5)
        start = time.process_time()
        for size, many in ((4, 4), (3, 5)):
            total = Sum(many, [(number % 7 - 8, row) for number, row in enumerate(rows_of(many))])
            measure = measure_of(total, size)
            self.shown(True, measure, Unchanged(written(total, size)))
            self.shown(total == written(total, size), measure, Unchanged(total))
            self.shown(False, measure, Unchanged(written(total, size).times(2)))
            row, other = size - 1, 0
            units = [(other, row)] + [(1, 1)] * (many - 1)
            more = measure + Measure(size, many, [(1, [(row, row)] + [(1, 1)] * (many - 1))])
            self.assertTrue(is_own_change(more, row, other, units))
            self.shown(True, more, Changed(row, other, units))
            self.shown(False, measure, Changed(row, other, units))
            self.shown(False, more, Unchanged(written(total, size)))
            self.shown(is_own_change(more, 0, 1, drawn_list(draw, size, many)), more, Changed(0, 1, drawn_list(draw, size, many)))
        self.assertLess(time.process_time() - start, 6)

    def test_refused(self):
        for value in NO_MEASURES:
            for function in (shows_unchanged, shows_steady):
                self.refused(BadMeasure("measure"), function, value, None)
                self.refused(BadMeasure("measure"), function, value, Unchanged(Sum(1, [])))


class ShowsSteadyTest(Case):
    def shown(self, want, measure, value):
        self.assertIs(shows_steady(measure, value), want)

    def total(self, measure, total):
        """A Steady of this is shown exactly if it is a sum of kept ties with plain weights that has the measure."""
        right = type(total) is TieSum and total.ends == 2 * measure.many and all(len(weight) == 1 for weight, _ in total.terms)
        right = right and all(ties_kept(row, measure.size) for _, row in total.terms)
        right = right and own_measure_of_ties(total, measure.size) == measure_dict(measure)
        self.shown(right, measure, Steady(total))

    def turned(self, measure, axes, units):
        paper = Turned(axes, units)
        axes = paper.axes
        right = type(axes) is tuple and len(axes) in (1, 2) and all(is_axis(k, measure.size) for k in axes) and list(axes) == sorted(set(axes))
        right = right and are_own_units(paper.units, measure.size, measure.many)
        self.shown(right and is_own_turning(measure, axes, paper.units), measure, paper)

    def test_right_ones(self):
        draw = random.Random(6)
        for size, many in SEARCHED:
            for measure in (measure_of_ties(drawn_plain(draw, 2 * many), size), drawn_measure(draw, size, many), Measure(size, many, [])):
                paper = steady(measure)
                self.shown(True, measure, paper)
                self.assertIs(shows_unchanged(measure, paper), False)
                if not paper:
                    self.shown(True, measure, Turned(units=[list(place) for place in paper.units], axes=list(paper.axes)))
                    self.shown(False, measure, Steady(TieSum(2 * many, [])))
                else:
                    for _ in range(4):
                        self.shown(False, measure, Turned([draw.randrange(size)], drawn_list(draw, size, many)))
                        if size > 1:
                            self.shown(False, measure, Turned(sorted(draw.sample(range(size), 2)), drawn_list(draw, size, many)))

    def test_all_units_of_all_axes(self):
        draw = random.Random(7)
        for size, many in ((1, 1), (2, 1), (2, 2), (3, 1)):
            for _ in range(4):
                measure = drawn_measure(draw, size, many)
                for axes in [[one] for one in range(-1, size + 1)] + [[one, other] for one in range(-1, size + 1) for other in range(-1, size + 1)]:
                    for units in all_lists(size, many):
                        self.turned(measure, axes, units)

    def test_bent_sums(self):
        draw = random.Random(8)
        for size, many in SMALL:
            total = drawn_plain(draw, 2 * many, 4)
            measure = measure_of_ties(total, size)
            told = steady(measure).total
            others = [total, told, told + TieSum.of(drawn_ties(draw, 2 * many)), told.times([2]), told.times([-1]), told.times([0, 1]), told.back(),
                      TieSum(2 * many, []), told.terms, str(told), measure, Steady(told), Sum(many, []), told.times([1 - size, 1])]
            others += [TieSum(ends, []) for ends in (2, 4, 10)]
            if size < many:
                others.append(ties_written(total, size + 1))
            for other in others + ODD_VALUES:
                self.total(measure, other)

    def test_weights_that_hang_on_the_size(self):
        """Even where they are right at the size, they are none of a Steady."""
        ties = TieSum.of((1, 0, 3, 2))
        measure = measure_of_ties(ties, 2)
        self.shown(True, measure, Steady(ties))
        self.shown(False, measure, Steady(ties.times([-1, 1])))
        self.shown(False, measure.times(2), Steady(ties.times([0, 1])))
        self.shown(True, measure.times(2), Steady(ties.times([0, 1]).at(2)))

    def test_ties_that_are_not_kept(self):
        for row in kept_ties(6, 3) + kept_ties(8, 4)[::7]:
            for size in (1, 2, 3):
                measure = measure_of_ties(TieSum.of(row), size)
                self.shown(ties_kept(row, size), measure, Steady(TieSum.of(row)))
                self.shown(True, measure, Steady(ties_written(TieSum.of(row), size)))

    def test_bent_axes_and_units(self):
        draw = random.Random(9)
        for size, many in SMALL:
            if size > 1:
                for more in ([(5, [(0, 1)] * many)], [(5, [(0, 0)] * many)]):
                    measure = measure_of_ties(drawn_plain(draw, 2 * many), size) + Measure(size, many, more)
                    paper = steady(measure)
                    if not paper:
                        for bent in bent_units(paper.units, size):
                            self.turned(measure, paper.axes, bent)
                        for bent in ODD_AXES + [(), (0, 1), (1, 0), (0, 0), (0, 1, 1), (0, size - 1), (0, size), (-1, 0), (True,), (0, True), (None,), "0"]:
                            self.turned(measure, bent, paper.units)
                        for k in range(-1, size + 1):
                            self.turned(measure, [k], paper.units)
                            self.turned(measure, k, paper.units)
                        self.turned(measure, paper.units, paper.axes)

    def test_other_values(self):
        apart = Measure.read("2 1 : 1 01 / -1 10")
        line = measure_of(Sum.of((0,)), 2)

        class BelowTurned(Turned):
            pass

        class BelowSteady(Steady):
            pass

        self.shown(True, apart, Turned([0], [(0, 1)]))
        self.shown(False, apart, Turned([0, 1], [(0, 1)]))
        self.shown(True, line, Steady(TieSum.of((1, 0))))
        for value in [Paper("turned", [0], [(0, 1)]), Denial("turned", [0], [(0, 1)]), BelowTurned([0], [(0, 1)]), ((0,), ((0, 1),)), Turned,
                      Changed(0, 1, [(0, 1)]), Something((0,), (0,)), SomethingTied((0, 0)), *ODD_VALUES]:
            self.shown(False, apart, value)
        for value in [Paper("steady", TieSum.of((1, 0))), BelowSteady(TieSum.of((1, 0))), Unchanged(Sum.of((0,))), TieSum.of((1, 0)), Steady,
                      Steady(Sum.of((0,))), Unchanged(TieSum.of((1, 0))), Made([]), *ODD_VALUES]:
            self.shown(False, line, value)
        self.assertIs(shows_steady(value=Steady(TieSum.of((1, 0))), measure=line), True)

    def test_many_entries(self):
        draw = random.Random(10)
        start = time.process_time()
        for size, many in ((4, 4), (3, 5)):
            total = drawn_plain(draw, 2 * many, 30)
            measure = measure_of_ties(total, size)
            self.shown(True, measure, Steady(ties_written(total, size)))
            self.shown(False, measure, Steady(ties_written(total, size).times([2])))
            more = measure + Measure(size, many, [(1, [(0, size - 1)] + [(1, 1)] * (many - 1))])
            units = [(0, size - 1)] + [(1, 1)] * (many - 1)
            self.assertTrue(is_own_turning(more, (0,), units))
            self.shown(True, more, Turned([0], units))
            self.shown(False, measure, Turned([0], units))
            self.shown(is_own_turning(more, (0, 1), units), more, Turned([0, 1], units))
            self.shown(False, more, Steady(ties_written(total, size)))
        self.assertLess(time.process_time() - start, 6)
