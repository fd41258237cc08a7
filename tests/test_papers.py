"""Papers and denials."""

from fromsize.papers import Denial, Paper, fixed
from fromsize.written import Nothing, Something, Written
from fromsize.classes import Clash, Commutes
from tests.own import ODD_VALUES, Case


class FixedTest(Case):
    def test_all_the_way_in(self):
        self.assertEqual(fixed([1, [None, (2, [])], "a"]), (1, (None, (2, ())), "a"))
        self.assertEqual(fixed(([[[]]],)), ((((),),),))
        self.assertEqual(fixed(([1, 2], [3])), ((1, 2), (3,)))
        self.assertEqual(fixed([]), ())

    def test_deep(self):
        value, want = [], ()
        for _ in range(59):
            value, want = [value, 1], (want, 1)
        self.assertEqual(fixed(value), want)

    def test_other_values_stay(self):
        inner = [[1], {2: [3]}]
        table = {1: inner}
        self.assertIs(fixed(table), table)
        self.assertIs(fixed([table])[0], table)
        self.assertEqual(table, {1: [[1], {2: [3]}]})
        for value in ODD_VALUES:
            self.assertIs(fixed(value), value)
            self.assertIs(fixed([[value]])[0][0], value)

    def test_nothing_is_changed(self):
        value = [1, [2, (3, [4])]]
        fixed(value)
        self.assertEqual(value, [1, [2, (3, [4])]])


class PapersTest(Case):
    def test_attributes(self):
        for kind in (Paper, Denial):
            inner = [2]
            told = [1, inner]
            paper = kind("note", told, "a", None)
            inner.append(3)
            told.append(4)
            self.assertEqual(paper.word, "note")
            self.assertEqual(paper.parts, ((1, (2,)), "a", None))
            self.assertIs(type(paper.parts), tuple)
            self.assertEqual(kind("note").parts, ())
            self.assertEqual(kind(word="note").word, "note")

    def test_truth(self):
        for parts in ([], [0], [False, ()], [1]):
            self.assertIs(bool(Paper("note", *parts)), True)
            self.assertIs(bool(Denial("note", *parts)), False)

    def test_equal(self):
        for kind in (Paper, Denial):
            self.assertEqual(kind("note", [1], 2), kind("note", (1,), 2))
            self.assertFalse(kind("note", [1]) != kind("note", (1,)))
            self.assertNotEqual(kind("note", 1), kind("other", 1))
            self.assertNotEqual(kind("note", 1), kind("note", 2))
            self.assertNotEqual(kind("note", 1), kind("note", 1, 1))
            self.assertNotEqual(kind("note", 1), kind("note"))
            self.assertNotEqual(kind("note", 1), kind("note", [1]))
            self.assertEqual(kind("note", 1), kind("note", True))
            for value in [*ODD_VALUES, ("note", 1), "note", [1]]:
                self.assertIs(kind("note", 1) == value, False)
        self.assertNotEqual(Paper("note", 1), Denial("note", 1))
        self.assertNotEqual(Denial("note", 1), Paper("note", 1))

    def test_classes_of_papers(self):
        told = [(Written, "written", ["writing", "steps"]), (Nothing, "nothing", ["steps"]),
                (Something, "something", ["tops", "bottoms"]), (Commutes, "commutes", ["steps"]),
                (Clash, "clash", ["top", "tops", "bottoms"])]
        for kind, word, names in told:
            for value in [[1, [2]], *ODD_VALUES]:
                parts = [value, [3], (4, [])][:len(names)]
                by_place = kind(*parts)
                by_name = kind(**dict(zip(names, parts)))
                self.assertEqual(by_place, by_name)
                for paper in (by_place, by_name):
                    self.assertEqual(paper.word, word)
                    self.assertEqual(paper.parts, fixed(parts))
                    self.assertEqual([getattr(paper, name) for name in names], list(fixed(parts)))
                denies = kind in (Something, Clash)
                self.assertIs(bool(by_place), not denies)
                self.assertIs(isinstance(by_place, Denial), denies)
                self.assertIsInstance(by_place, Paper)
                plain = (Denial if denies else Paper)(word, *parts)
                self.assertFalse(by_place == plain)
                self.assertFalse(plain == by_place)
                self.assertFalse(by_place == (Paper if denies else Denial)(word, *parts))

    def test_a_list_changed_later(self):
        steps = [[1, [0, 1], [0, 1]]]
        papers = [Nothing(steps), Commutes([steps]), Written(None, steps)]
        steps[0][1].append(5)
        steps.append(6)
        want = ((1, (0, 1), (0, 1)),)
        self.assertEqual([papers[0].steps, papers[1].steps, papers[2].steps], [want, (want,), want])

    def test_other_classes_with_the_same_parts(self):
        self.assertNotEqual(Nothing(()), Commutes(()))
        self.assertNotEqual(Something((0,), (0,)), Clash(0, (0,), (0,)))
