"""Measures, against counts list by list."""

import random
import time

from fromsize.bases import in_base, in_turn
from fromsize.crossings import crossing
from fromsize.errors import BadMeasure, BadNumber, BadSum, BadTable, BadTieSum, Misfit, TooMany
from fromsize.measures import Measure, measure_of, measure_of_ties
from fromsize.sums import Sum
from fromsize.tie_sums import TieSum
from fromsize.tie_written import ties_written
from fromsize.written import written
from tests.own import GREAT, ODD_VALUES, Case, drawn_row, drawn_sum, own_rounds, rows_of
from tests.own_formulas import drawn_table, own_over, own_product, own_trace
from tests.own_measures import (NO_MEASURE_SIZES, drawn_list, drawn_measure, drawn_measure_terms, measure_dict, own_measure_of,
                                own_measure_of_ties, own_worth, places_added)
from tests.own_ties import drawn_plain, drawn_ties, matchings
from tests.test_bases import NO_TABLES

SHAPES = [(size, many) for size in (1, 2, 3, 4) for many in (1, 2, 3, 4, 5) if size ** many <= 256]


class MakingTest(Case):
    def test_terms(self):
        draw = random.Random(1)
        for size, many in SHAPES:
            for great in (2, GREAT, 10 ** 90):
                for _ in range(6):
                    terms = drawn_measure_terms(draw, size, many, 12, great)
                    terms += draw.sample(terms, len(terms) // 2) + [(0, drawn_list(draw, size, many))]
                    want = places_added(terms)
                    measure = Measure(size, many, terms)
                    self.assertEqual(measure.terms, tuple((want[places], places) for places in sorted(want)))
                    self.assertEqual((measure.size, measure.many), (size, many))
                    lists = tuple([weight, [list(place) for place in places]] for weight, places in draw.sample(terms, len(terms)))
                    self.assertEqual(Measure(size=size, many=many, terms=lists), measure)
                    self.assertEqual(Measure(size, many, list(lists)).terms, measure.terms)
                    for weight, places in measure.terms:
                        self.assertEqual({type(places), *map(type, places)}, {tuple})

    def test_a_list_changed_later(self):
        place = [0, 1]
        places = [place, (1, 1)]
        pair = [3, places]
        terms = [pair]
        measure = Measure(2, 2, terms)
        place[0] = 1
        places[1] = (0, 0)
        pair[0] = 7
        terms.append([1, [(0, 0), (0, 0)]])
        self.assertEqual(measure.terms, ((3, ((0, 1), (1, 1))),))
        self.assertEqual(terms, [[7, [[1, 1], (0, 0)]], [1, [(0, 0), (0, 0)]]])

    def test_equal(self):
        measure = Measure(2, 1, [(1, [(0, 1)]), (-2, [(1, 0)])])
        self.assertTrue(measure == Measure(2, 1, ([-2, ([1, 0],)], [1, [[0, 1]]])))
        self.assertFalse(measure != Measure(2, 1, ([-2, ([1, 0],)], [1, [[0, 1]]])))
        unlike = [Measure(3, 1, [(1, [(0, 1)]), (-2, [(1, 0)])]), Measure(2, 1, []), measure.times(2), Measure(2, 2, []), Sum(1, []),
                  TieSum(2, []), measure_of(Sum.of((0,)), 2)]
        for other in unlike + ODD_VALUES + [str(measure), measure.terms, (2, 1, measure.terms)]:
            self.assertIs(measure == other, False)
            self.assertIs(measure != other, True)
        self.assertFalse(Measure(1, 2, []) == Measure(2, 1, []))

    def test_refused(self):
        for size in NO_MEASURE_SIZES + ODD_VALUES:
            self.refused(BadNumber("size"), Measure, size, 1, [])
            self.refused(BadNumber("size"), Measure, size, None, None)
        for many in [0, 6, -1, True, False, None, "2", 2.0, [2], GREAT, *ODD_VALUES]:
            self.refused(BadNumber("many"), Measure, 2, many, [])
            self.refused(BadNumber("many"), Measure, 4, many, None)
        place = [(0, 0), (1, 1)]
        bad = [None, 1, "", {}, {1: place}, [1], [None], [(1,)], [()], [(1, place, 2)], [(place, 1)], [(True, place)], [(None, place)],
               [(1.0, place)], [("1", place)], [(1, None)], [(1, "00")], [(1, [])], [(1, [(0, 0)])], [(1, place + [(0, 0)])],
               [(1, [(0, 0), (1, 2)])], [(1, [(0, 0), (2, 0)])], [(1, [(0, 0), (-1, 0)])], [(1, [(0, 0), (1, True)])],
               [(1, [(0, 0), (1, None)])], [(1, [(0, 0), (1,)])], [(1, [(0, 0), (1, 1, 1)])], [(1, [(0, 0), 1])], [(1, [(0, 0), "11"])],
               [(1, [(0, 0), (1.0, 1)])], [(1, place), (1, [(0, 0)])], [(0, [(0, 0), (2, 2)])], (1, place), iter([(1, place)]), [{1: 2, 3: 4}],
               [(1, {0: 0, 1: 1})], [(1, [(0, 0), (GREAT, 0)])], [(1, [[(0, 0)], (1, 1)])], [(1, [(0, 0), [1, [1]]])], Measure(2, 2, []),
               [(1, [(0, 0), {1, 0}])]]
        for terms in bad + [value for value in ODD_VALUES if not isinstance(value, (list, tuple))]:
            self.refused(BadMeasure("terms"), Measure, 2, 2, terms)
            self.refused(BadMeasure("terms"), Measure, 4, 5, [(1, [(0, 0)] * 5), 1] if isinstance(terms, (list, tuple)) else terms)

    def test_too_many_entries(self):
        """Of size 4 there may be four tables; behind all else that is refused."""
        self.assertEqual(Measure(4, 4, []).terms, ())
        self.assertEqual(Measure(3, 5, []).terms, ())
        self.assertEqual(Measure(4, 4, [(1, [(3, 3)] * 4)]).many, 4)
        self.refused(TooMany("entries", 256), Measure, 4, 5, [])
        self.refused(TooMany("entries", 256), Measure, 4, 5, [(1, [(3, 3)] * 5)])
        self.refused(BadMeasure("terms"), Measure, 4, 5, [(1, [(3, 3)] * 4)])
        self.refused(BadMeasure("terms"), Measure, 4, 5, [(1, [(3, 4)] * 5)])


class AddingTest(Case):
    def test_drawn_measures(self):
        draw = random.Random(2)
        for size, many in SHAPES:
            for great in (3, GREAT):
                one, other = drawn_measure(draw, size, many, 9, great), drawn_measure(draw, size, many, 9, great)
                before = (one.terms, other.terms)
                self.assertEqual(measure_dict(one + other), places_added(one.terms + other.terms))
                self.assertEqual((one + one.times(-1)).terms, ())
                for number in (0, 1, -1, 7, -GREAT):
                    want = places_added([(number * weight, places) for weight, places in one.terms])
                    self.assertEqual(measure_dict(one.times(number)), want)
                self.assertEqual(one.times(number=2), one + one)
                tables = [drawn_table(draw, size, great) for _ in range(many)]
                self.assertEqual(one.worth(tables), own_worth(measure_dict(one), tables))
                told = tuple(tuple(tuple(row) for row in table) for table in tables)
                self.assertEqual(one.worth(tables=told), one.worth(tables))
                self.assertEqual((one + other).worth(tables), one.worth(tables) + other.worth(tables))
                self.assertEqual(one.times(-3).worth(tables), -3 * one.worth(tables))
                self.assertEqual((one.terms, other.terms), before)

    def test_refused(self):
        measure = Measure(2, 2, [])
        for other in (Measure(3, 2, []), Measure(3, 1, []), Measure(1, 2, [])):
            self.refused(Misfit("size"), Measure.__add__, measure, other)
        for many in (1, 3, 4, 5):
            self.refused(Misfit("many"), Measure.__add__, measure, Measure(2, many, []))
            self.refused(Misfit("many"), Measure.__add__, Measure(2, many, []), measure)
        for value in [True, None, "1", 1.0, [1], *ODD_VALUES]:
            self.refused(BadNumber("number"), measure.times, value)
        table = [[1, 2], [3, 4]]
        for tables in [None, 1, "", [], [table], [table] * 3, (table, table, table), table, [table, [[1, 2, 3]] * 3], [table, [[1]]], {0: table, 1: table},
                       iter([table, table]), "ab", *[[table, value] for value in NO_TABLES], *[[value, table] for value in NO_TABLES],
                       *[value for value in ODD_VALUES]]:
            self.refused(BadTable("tables"), measure.worth, tables)


class MeasureOfTest(Case):
    def test_against_all_settings(self):
        draw = random.Random(3)
        for size, many in SHAPES:
            if size ** (2 * many) <= 5000:
                for great in (5, GREAT):
                    total = drawn_sum(draw, many, 5, great)
                    measure = measure_of(total, size)
                    self.assertEqual((measure.size, measure.many), (size, many))
                    self.assertEqual(measure_dict(measure), own_measure_of(total, size))
                    self.assertEqual([places for _, places in measure.terms], sorted(measure_dict(measure)))
                    self.assertEqual(measure_of(size=size, total=total), measure)
                    self.assertEqual(Measure(size, many, measure.terms), measure)

    def test_ties_against_all_settings(self):
        draw = random.Random(4)
        for size, many in SHAPES:
            if size ** (2 * many) <= 5000:
                for great in (5, GREAT):
                    total = drawn_plain(draw, 2 * many, 5, great)
                    measure = measure_of_ties(total, size)
                    self.assertEqual((measure.size, measure.many), (size, many))
                    self.assertEqual(measure_dict(measure), own_measure_of_ties(total, size))
                    self.assertEqual([places for _, places in measure.terms], sorted(measure_dict(measure)))
                    self.assertEqual(measure_of_ties(size=size, total=total), measure)
                    self.assertEqual(Measure(size, many, measure.terms), measure)

    def test_the_greatest(self):
        """Where not all lists can be asked: those of drawn settings, and how many there are in all."""
        draw = random.Random(5)
        for size, many in ((4, 4), (3, 5), (2, 5), (4, 3)):
            total, ties = drawn_sum(draw, many, 6), drawn_plain(draw, 2 * many, 6)
            measure, tied = measure_of(total, size), measure_of_ties(ties, size)
            told, more = measure_dict(measure), measure_dict(tied)
            self.assertEqual(sum(told.values()), size ** many * sum(weight for weight, _ in total.terms))
            self.assertEqual(sum(more.values()), size ** many * sum(weight[0] for weight, _ in ties.terms))
            for places in draw.sample(list(told) or [((0, 0),) * many], min(20, len(told) or 1)) + [drawn_list(draw, size, many) for _ in range(20)]:
                columns, rows = [column for _, column in places], [row for row, _ in places]
                self.assertEqual(told.get(places, 0), total.led(columns, rows))
                self.assertEqual(more.get(places, 0), sum(weight for weight in ties.taken(columns + rows[::-1])))

    def test_traces_along_the_rounds(self):
        draw = random.Random(6)
        for size, many in SHAPES:
            for _ in range(2):
                row = drawn_row(draw, many)
                tables = [drawn_table(draw, size) for _ in range(many)]
                want = 1
                for walk in own_rounds(row):
                    table = tables[walk[0]]
                    for k in walk[1:]:
                        table = own_product(table, tables[k])
                    want *= own_trace(table)
                self.assertEqual(measure_of(Sum.of(row), size).worth(tables), want)

    def test_traces_along_the_rings_of_ties(self):
        """Tables gone through the other way are turned over."""
        draw = random.Random(7)
        for size, many in SHAPES:
            for _ in range(2):
                ties = drawn_ties(draw, 2 * many)
                tables = [drawn_table(draw, size) for _ in range(many)]
                self.assertEqual(measure_of_ties(TieSum.of(ties), size).worth(tables), self.own_rings(ties, tables))

    def own_rings(self, ties, tables):
        last, left, found = len(ties) - 1, set(range(len(tables))), 1
        while left:
            first = min(left)
            table, end = tables[first], first
            left.remove(first)
            while ties[end] != last - first:
                end = ties[end]
                wire = min(end, last - end)
                left.remove(wire)
                # Come to by the bottom the table's row is met first, by the top its column.
                table = own_product(table, own_over(tables[wire]) if end == wire else tables[wire])
                end = last - end
            found *= own_trace(table)
        return found

    def test_ties_of_wirings(self):
        draw = random.Random(8)
        for size, many in SHAPES:
            total = drawn_sum(draw, many, 5)
            self.assertEqual(measure_of_ties(TieSum.wired(total), size), measure_of(total, size))

    def test_one_measure_exactly_if_one_writing(self):
        draw = random.Random(9)
        for size, many in SHAPES:
            row = drawn_row(draw, many)
            one, other = drawn_sum(draw, many, 4), drawn_sum(draw, many, 4)
            pairs = [(one, other), (one, written(one, size))]
            if size < many:
                pairs.append((one, one + crossing(row, tuple(range(size + 1))).times(2)))
            for first, second in pairs:
                self.assertIs(measure_of(first, size) == measure_of(second, size), written(first, size) == written(second, size))
            ties, more = drawn_plain(draw, 2 * many, 4), drawn_plain(draw, 2 * many, 4)
            for first, second in ((ties, more), (ties, ties_written(ties, size))):
                self.assertIs(measure_of_ties(first, size) == measure_of_ties(second, size),
                              ties_written(first, size) == ties_written(second, size))

    def test_bases_and_turns(self):
        draw = random.Random(10)
        for size, many in SHAPES:
            if size > 1:
                tables = [drawn_table(draw, size) for _ in range(many)]
                row, other = draw.sample(range(size), 2)
                axes = sorted((row, other))
                told, ties = measure_of(drawn_sum(draw, many), size), measure_of_ties(drawn_plain(draw, 2 * many), size)
                self.assertEqual(told.worth([in_base(table, row, other) for table in tables]), told.worth(tables))
                for measure in (told, ties):
                    self.assertEqual(measure.worth([in_turn(table, axes) for table in tables]), 25 ** many * measure.worth(tables))
                    self.assertEqual(measure.worth([in_turn(table, [row]) for table in tables]), measure.worth(tables))

    def test_without_terms(self):
        for size, many in SHAPES:
            self.assertEqual(measure_of(Sum(many, []), size), Measure(size, many, []))
            self.assertEqual(measure_of_ties(TieSum(2 * many, []), size), Measure(size, many, []))

    def test_refused(self):
        two, ties = Sum.of((1, 0)), TieSum.of((1, 0, 3, 2))
        for value in [ties, (1, 0), two.terms, str(two), *ODD_VALUES]:
            self.refused(BadSum("total"), measure_of, value, 2)
            self.refused(BadSum("total"), measure_of, value, 0)
        for value in [two, (1, 0), ties.terms, str(ties), *ODD_VALUES]:
            self.refused(BadTieSum("total"), measure_of_ties, value, 2)
            self.refused(BadTieSum("total"), measure_of_ties, value, 0)
        six, hanging = Sum(6, []), ties.times([0, 1])
        for size in NO_MEASURE_SIZES + ODD_VALUES:
            self.refused(BadNumber("size"), measure_of, two, size)
            self.refused(BadNumber("size"), measure_of, six, size)
            self.refused(BadNumber("size"), measure_of_ties, ties, size)
            self.refused(BadNumber("size"), measure_of_ties, hanging, size)
        for size in (1, 4):
            self.refused(TooMany("tables", 5), measure_of, six, size)
            self.refused(TooMany("tables", 5), measure_of, Sum.of((0, 1, 2, 3, 4, 5)), size)
            for total in (hanging, ties + hanging, TieSum.of((9, 8, 7, 6, 5, 4, 3, 2, 1, 0)).times([0, 0, 1])):
                self.refused(Misfit("weights"), measure_of_ties, total, size)
        self.refused(TooMany("entries", 256), measure_of, Sum(5, []), 4)
        self.refused(TooMany("entries", 256), measure_of_ties, TieSum(10, []), 4)
        self.assertEqual(len(measure_of(Sum.of((0, 1, 2, 3)), 4).terms), 256)
        self.assertEqual(len(measure_of(Sum.of((0, 1, 2, 3, 4)), 3).terms), 243)
        self.assertEqual(measure_of_ties(hanging.at(3), 2), measure_of_ties(ties, 2).times(3))

    def test_in_a_short_time(self):
        start = time.process_time()
        total = Sum(5, [(number + 1, row) for number, row in enumerate(rows_of(5))])
        ties = TieSum(10, [((number + 1,), row) for number, row in enumerate(matchings(10))])
        measure, tied = measure_of(total, 3), measure_of_ties(ties, 3)
        self.assertLess(time.process_time() - start, 3)
        start = time.process_time()
        draw = random.Random(11)
        tables = [drawn_table(draw, 3) for _ in range(5)]
        self.assertEqual((measure + tied).worth(tables), measure.worth(tables) + tied.worth(tables))
        self.assertEqual(Measure.read(str(tied)), tied)
        self.assertLess(time.process_time() - start, 3)
