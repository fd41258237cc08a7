"""The names, arguments and kinds of what the interface lists, where it lists them."""

import importlib
import inspect
import unittest

FUNCTIONS = {
    "checks": {"is_integer": ["value"], "is_within": ["value", "least", "most"], "is_numbers": ["value"],
               "is_size": ["value"], "is_setting": ["value", "many"], "is_table": ["value", "size"]},
    "papers": {"fixed": ["value"]},
    "ranks": {"rank": ["rows"]},
    "wirings": {"is_wiring": ["value"], "behind": ["one", "other"], "back": ["row"], "beside": ["one", "other"],
                "sign": ["row"], "rounds": ["row"], "led": ["row", "setting"]},
    "falls": {"colours": ["row"], "longest_fall": ["row"], "settings_of": ["row"], "is_kept": ["row", "size"]},
    "crossings": {"crossing": ["row", "tops"], "plain": ["row", "tops"]},
    "written": {"written": ["total", "size"], "written_by": ["total", "size"], "judged": ["total", "size"],
                "least_size": ["total"]},
    "check_written": {"shows_written": ["total", "size", "value"], "shows_judged": ["total", "size", "value"]},
    "kept": {"kept": ["wires", "size"], "kept_many": ["wires", "size"], "left_over": ["wires", "size"]},
    "classes": {"class_sum": ["wires", "lengths"], "classes_many": ["wires", "size"], "commutes": ["total", "size"]},
    "check_classes": {"shows_commutes": ["total", "size", "value"]},
    "ties": {"is_ties": ["value"], "ties_of": ["row"], "wiring_of": ["ties"], "ties_behind": ["one", "other"],
             "ties_back": ["ties"]},
    "rises": {"tie_colours": ["ties"], "longest_rise": ["ties"], "ties_kept": ["ties", "size"],
              "kept_ties": ["ends", "size"]},
    "tie_written": {"tie_crossing": ["ties", "ends"], "ties_written": ["total", "size"], "judged_ties": ["total", "size"]},
    "tie_sizes": {"sizes_nothing": ["total"]},
    "check_ties": {"shows_judged_ties": ["total", "size", "value"]},
    "words": {"is_word": ["value"], "turned_word": ["word"], "round_of": ["word"]},
    "values": {"value_of": ["formula", "tables", "size"]},
    "led": {"lots": ["formula"], "copies": ["lot"], "letters_of": ["lot"], "sum_of": ["lot"],
            "formula_of": ["total", "letters", "is_table"]},
    "tied": {"tie_sum_of": ["lot"]},
    "one": {"one_rule": ["words"], "cayley": ["words"]},
    "rules": {"rule": ["formula", "size"]},
    "turned_rules": {"turned_rule": ["formula", "size"], "from_size": ["formula"]},
    "central": {"central": ["formula", "size"]},
    "check_rules": {"shows_rule": ["formula", "size", "value"], "shows_turned_rule": ["formula", "size", "value"],
                    "shows_central": ["formula", "size", "value"]},
    "pure": {"signed_sum": ["letters"], "pure_many": ["many", "size"], "pure_list": ["many", "size"], "backwards": ["word"]},
    "measures": {"measure_of": ["total", "size"], "measure_of_ties": ["total", "size"]},
    "bases": {"in_base": ["table", "row", "other"], "in_turn": ["table", "axes"]},
    "unchanged": {"unchanged": ["measure"]},
    "turns": {"steady": ["measure"]},
    "check_measures": {"shows_unchanged": ["measure", "value"], "shows_steady": ["measure", "value"]},
    "two": {"at_two": ["word"], "trace_at_two": ["word"], "alike_at_two": ["one", "other"]},
}
CLASSES = {
    "papers": {"Paper": ["word", "parts"], "Denial": ["word", "parts"]},
    "sums": {"Sum": ["wires", "terms"]},
    "written": {"Written": ["writing", "steps"], "Nothing": ["steps"], "Something": ["tops", "bottoms"]},
    "classes": {"Commutes": ["steps"], "Clash": ["top", "tops", "bottoms"]},
    "tie_sums": {"TieSum": ["ends", "terms"]},
    "tie_written": {"NothingTied": ["steps"], "SomethingTied": ["setting"]},
    "formulas": {"Formula": ["is_table", "terms"]},
    "rules": {"Made": ["lots"], "Differs": ["tables"]},
    "turned_rules": {"MadeTied": ["lots"]},
    "central": {"Central": ["lots"]},
    "measures": {"Measure": ["size", "many", "terms"]},
    "unchanged": {"Unchanged": ["total"], "Changed": ["row", "other", "units"]},
    "turns": {"Steady": ["total"], "Turned": ["axes", "units"]},
}
# All classes of papers, and whether they are denials.
PAPERS = {"Written": False, "Nothing": False, "Something": True, "Commutes": False, "Clash": True, "NothingTied": False,
          "SomethingTied": True, "Made": False, "Differs": True, "MadeTied": False, "Central": False, "Unchanged": False,
          "Changed": True, "Steady": False, "Turned": True}
# Methods of a class, and its static ones.
METHODS = {
    ("sums", "Sum"): ({"__init__": ["wires", "terms"], "__eq__": ["other"], "__len__": [], "__str__": [],
                       "__add__": ["other"], "__sub__": ["other"], "__mul__": ["other"], "times": ["number"], "back": [],
                       "beside": ["other"], "weight": ["row"], "led": ["tops", "bottoms"], "closed": []},
                      {"of": ["row"], "read": ["text"]}),
    ("tie_sums", "TieSum"): ({"__init__": ["ends", "terms"], "__eq__": ["other"], "__len__": [], "__str__": [],
                              "__add__": ["other"], "__sub__": ["other"], "__mul__": ["other"], "times": ["weight"],
                              "back": [], "at": ["size"], "closed": [], "weight": ["ties"], "taken": ["setting"]},
                             {"of": ["ties"], "wired": ["total"], "read": ["text"]}),
    ("formulas", "Formula"): ({"__init__": ["is_table", "terms"], "__eq__": ["other"], "__str__": [],
                               "__add__": ["other"], "__sub__": ["other"], "__mul__": ["other"], "times": ["number"],
                               "turned": [], "trace": [], "with_word": ["letter", "word"]},
                              {"of": ["word"], "read": ["text"]}),
    ("measures", "Measure"): ({"__init__": ["size", "many", "terms"], "__eq__": ["other"], "__str__": [], "__add__": ["other"],
                               "times": ["number"], "worth": ["tables"]}, {"read": ["text"]}),
}


def names_of(module):
    """The names that the interface lists for a module."""
    return list(FUNCTIONS.get(module, {})) + list(CLASSES.get(module, {}))


def module_of(name):
    return importlib.import_module("fromsize." + name)


class InterfaceTest(unittest.TestCase):
    def test_functions(self):
        for module, told in FUNCTIONS.items():
            for name, parameters in told.items():
                held = getattr(module_of(module), name)
                self.assertTrue(inspect.isfunction(held))
                self.assertEqual(held.__module__, "fromsize." + module)
                self.assertEqual(list(inspect.signature(held).parameters), parameters, name)

    def test_classes(self):
        for module, told in CLASSES.items():
            for name, parameters in told.items():
                held = getattr(module_of(module), name)
                self.assertTrue(inspect.isclass(held))
                self.assertEqual(held.__module__, "fromsize." + module)
                self.assertIn("__init__", vars(held))
                self.assertEqual(list(inspect.signature(held).parameters), parameters, name)

    def test_methods(self):
        for (module, name), (plain, static) in METHODS.items():
            held = vars(getattr(module_of(module), name))
            for method, parameters in plain.items():
                self.assertTrue(inspect.isfunction(held[method]), method)
                self.assertEqual(list(inspect.signature(held[method]).parameters)[1:], parameters)
            for method, parameters in static.items():
                self.assertIsInstance(held[method], (staticmethod, classmethod))
                self.assertEqual(list(inspect.signature(held[method].__func__).parameters), parameters)

    def test_papers(self):
        papers = module_of("papers")
        for module, told in CLASSES.items():
            for name, parameters in told.items():
                if name in PAPERS:
                    held = getattr(module_of(module), name)
                    self.assertTrue(issubclass(held, papers.Paper))
                    self.assertIs(issubclass(held, papers.Denial), PAPERS[name])
                    self.ask_paper(held, parameters, not PAPERS[name])

    def ask_paper(self, held, parameters, truth):
        """Made of any values, by place and by name; lists are kept as tuples."""
        values = [[1, [None, ("a", [])]], object(), {3: [4]}][:len(parameters)]
        kept = [(1, (None, ("a", ()))), values[1] if len(values) > 1 else None, {3: [4]}][:len(parameters)]
        for paper in (held(*values), held(**dict(zip(parameters, values)))):
            self.assertEqual((paper.word, paper.parts), (held.__name__.lower(), tuple(kept)))
            self.assertEqual([getattr(paper, name) for name in parameters], kept)
            self.assertIs(bool(paper), truth)
            self.assertTrue(paper == held(*kept))
            self.assertFalse(paper == held(*[0] * len(parameters)))

    def test_all_classes_of_papers(self):
        """Those that are listed are all there are; equal exactly if of one class with equal parts."""
        papers = module_of("papers")
        listed = [(name, parameters, getattr(module_of(module), name)) for module, told in CLASSES.items()
                  for name, parameters in told.items() if name in PAPERS]
        kinds = [held for _, _, held in listed]
        self.assertEqual(len(kinds), len(PAPERS))
        self.assertEqual(set(papers.Denial.__subclasses__()), {held for held in kinds if PAPERS[held.__name__]})
        self.assertEqual(set(papers.Paper.__subclasses__()) - {papers.Denial}, {held for held in kinds if not PAPERS[held.__name__]})
        made = [held(*[0] * len(parameters)) for _, parameters, held in listed]
        for one, paper in enumerate(made):
            for other, more in enumerate(made):
                self.assertIs(paper == more, one == other)
                self.assertIs(paper != more, one != other)
            self.assertFalse(paper == papers.Paper(paper.word, *paper.parts))
            self.assertFalse(paper == papers.Denial(paper.word, *paper.parts))

    def test_papers_compare(self):
        papers = module_of("papers")
        self.assertIn("__eq__", vars(papers.Paper))
        self.assertIn("__eq__", vars(papers.Denial))
        self.assertTrue(issubclass(papers.Denial, papers.Paper))


if __name__ == "__main__":
    unittest.main()
