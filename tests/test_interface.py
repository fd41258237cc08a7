"""The names, arguments and kinds of what the interface lists, where it lists them."""

import importlib
import inspect
import unittest

FUNCTIONS = {
    "checks": {"is_integer": ["value"], "is_within": ["value", "least", "most"], "is_numbers": ["value"],
               "is_size": ["value"], "is_setting": ["value", "many"], "is_table": ["value", "size"]},
    "papers": {"fixed": ["value"]},
    "ranks": {"rank": ["rows"]},
    "wirings": {"is_wiring": ["value"], "behind": ["one", "other"], "back": ["row"], "beside": ["one", "other"],
                "sign": ["row"], "rounds": ["row"], "led": ["row", "setting"]},
    "falls": {"colours": ["row"], "longest_fall": ["row"], "settings_of": ["row"], "is_kept": ["row", "size"]},
    "crossings": {"crossing": ["row", "tops"], "plain": ["row", "tops"]},
    "written": {"written": ["total", "size"], "written_by": ["total", "size"], "judged": ["total", "size"],
                "least_size": ["total"]},
    "check_written": {"shows_written": ["total", "size", "value"], "shows_judged": ["total", "size", "value"]},
    "kept": {"kept": ["wires", "size"], "kept_many": ["wires", "size"], "left_over": ["wires", "size"]},
    "classes": {"class_sum": ["wires", "lengths"], "classes_many": ["wires", "size"], "commutes": ["total", "size"]},
}
CLASSES = {
    "papers": {"Paper": ["word", "parts"], "Denial": ["word", "parts"]},
    "sums": {"Sum": ["wires", "terms"]},
    "written": {"Written": ["writing", "steps"], "Nothing": ["steps"], "Something": ["tops", "bottoms"]},
    "classes": {"Commutes": ["steps"], "Clash": ["top", "tops", "bottoms"]},
}
METHODS = {"__init__": ["wires", "terms"], "__eq__": ["other"], "__len__": [], "__str__": [], "__add__": ["other"],
           "__sub__": ["other"], "__mul__": ["other"], "times": ["number"], "back": [], "beside": ["other"],
           "weight": ["row"], "led": ["tops", "bottoms"], "closed": []}
STATIC = {"of": ["row"], "read": ["text"]}


def module_of(name):
    return importlib.import_module("fromsize." + name)


class InterfaceTest(unittest.TestCase):
    def test_functions(self):
        for module, told in FUNCTIONS.items():
            for name, parameters in told.items():
                held = getattr(module_of(module), name)
                self.assertTrue(inspect.isfunction(held))
                self.assertEqual(held.__module__, "fromsize." + module)
                self.assertEqual(list(inspect.signature(held).parameters), parameters, name)

    def test_classes(self):
        for module, told in CLASSES.items():
            for name, parameters in told.items():
                held = getattr(module_of(module), name)
                self.assertTrue(inspect.isclass(held))
                self.assertEqual(held.__module__, "fromsize." + module)
                self.assertIn("__init__", vars(held))
                self.assertEqual(list(inspect.signature(held).parameters), parameters, name)

    def test_methods_of_sums(self):
        held = vars(module_of("sums").Sum)
        for name, parameters in METHODS.items():
            self.assertTrue(inspect.isfunction(held[name]), name)
            self.assertEqual(list(inspect.signature(held[name]).parameters)[1:], parameters)
        for name, parameters in STATIC.items():
            self.assertIsInstance(held[name], (staticmethod, classmethod))
            self.assertEqual(list(inspect.signature(held[name].__func__).parameters), parameters)

    def test_papers_compare(self):
        papers = module_of("papers")
        self.assertIn("__eq__", vars(papers.Paper))
        self.assertIn("__eq__", vars(papers.Denial))
        self.assertTrue(issubclass(papers.Denial, papers.Paper))


if __name__ == "__main__":
    unittest.main()
