"""The form of operators: they, and all that they call, change only what they plainly created, and call only what is named.

Asked of the text: from each double-underscore method of a class on, through each function of the package, each class
and each method that stands in a call there.
"""

import ast
import builtins
import unittest

from tests.test_form import LIBRARY, TREES

STARTS = {"__eq__", "__str__", "__len__", "__bool__", "__add__", "__sub__", "__mul__"}
CHANGING = {"append", "extend", "insert", "pop", "remove", "reverse", "sort", "clear", "update", "setdefault", "add", "discard"}
NEW = (ast.List, ast.Dict, ast.ListComp, ast.DictComp)
FUNCTIONS = {(name, row.name): row for name, tree in TREES.items() for row in tree.body if isinstance(row, ast.FunctionDef)}
CLASSES = {row.name: (name, {part.name: part for part in row.body if isinstance(part, ast.FunctionDef)})
           for name, tree in TREES.items() for row in tree.body if isinstance(row, ast.ClassDef)}


def source_of(name, word):
    """The file that defines what this word stands for in a file; None for a builtin and the library."""
    for row in TREES[name].body:
        if isinstance(row, ast.ImportFrom) and word in [one.name for one in row.names]:
            return None if row.module in LIBRARY else row.module.split(".")[1] + ".py"
    return name if (name, word) in FUNCTIONS or word in CLASSES else None


def called_by(name, function):
    """Triples of a file, a name and a function: all of the package that this one calls."""
    found = []
    for node in ast.walk(function):
        if isinstance(node, ast.Call) and isinstance(node.func, ast.Name):
            word = node.func.id
            file = source_of(name, word)
            if (file, word) in FUNCTIONS:
                found.append((file, word, FUNCTIONS[file, word]))
            elif word in CLASSES:
                home, methods = CLASSES[word]
                found.append((home, word + ".__init__", methods["__init__"]))
        elif isinstance(node, ast.Call) and isinstance(node.func, ast.Attribute):
            for word, (home, methods) in CLASSES.items():
                if node.func.attr in methods:
                    found.append((home, word + "." + node.func.attr, methods[node.func.attr]))
    return found


def reached():
    """All functions that operators, texts, lengths and equalities reach, these among them."""
    found = {}
    left = [(home, word + "." + part, method) for word, (home, methods) in CLASSES.items()
            for part, method in methods.items() if part in STARTS]
    while left:
        name, word, function = left.pop()
        if (name, word) not in found:
            found[name, word] = function
            left += called_by(name, function)
    return found


def local_values(function):
    """For each name that the function assigns, all that is assigned to it; None for what a loop or an unpacking gives."""
    found = {one.arg: [None] for one in function.args.args}
    plain = []
    for node in ast.walk(function):
        if isinstance(node, ast.Assign):
            for target in node.targets:
                if isinstance(target, ast.Name):
                    plain.append(target)
                    found.setdefault(target.id, []).append(node.value)
    for node in ast.walk(function):
        if isinstance(node, ast.Name) and isinstance(node.ctx, ast.Store) and node not in plain:
            found.setdefault(node.id, []).append(None)
    return found


def changed_by(function):
    """What the function changes: the expressions whose items, attributes or length it sets."""
    found = []
    for node in ast.walk(function):
        if isinstance(node, (ast.Subscript, ast.Attribute)) and isinstance(node.ctx, (ast.Store, ast.Del)):
            found.append(node.value)
        if isinstance(node, ast.Call) and isinstance(node.func, ast.Attribute) and node.func.attr in CHANGING:
            found.append(node.func.value)
        if isinstance(node, ast.Call) and isinstance(node.func, ast.Name) and node.func.id in LIBRARY["heapq"]:
            found.append(node.args[0])
    return found


class OperatorsTest(unittest.TestCase):
    def setUp(self):
        self.functions = reached()

    def test_what_is_reached(self):
        words = {word for _, word in self.functions}
        for word in ("TieSum.__sub__", "TieSum.__mul__", "Formula.__mul__", "Measure.__add__", "Sum.__init__", "Measure.__init__",
                     "all_joined", "weights_added", "weight_told", "terms_gathered", "places_gathered", "least_word", "number_text"):
            self.assertIn(word, words)

    def test_only_what_they_created_is_changed(self):
        for (name, word), function in self.functions.items():
            values = local_values(function)
            for node in changed_by(function):
                where = (name, word, node.lineno)
                if word.endswith(".__init__") and isinstance(node, ast.Name) and node.id == "self":
                    continue
                # A list put under a new key of a dict that was created, and changed at once.
                if isinstance(node, ast.Call) and ast.unparse(node.func).endswith(".setdefault"):
                    self.assertEqual(ast.unparse(node.args[1]), "[]", where)
                    node = node.func.value
                self.assertIsInstance(node, ast.Name, where)
                self.assertTrue(all(isinstance(value, NEW) for value in values.get(node.id, [None])), where)

    def test_nothing_passed_or_held_is_called(self):
        for (name, word), function in self.functions.items():
            values = local_values(function)
            for node in ast.walk(function):
                self.assertNotIsInstance(node, (ast.Lambda, ast.Global, ast.Nonlocal), (name, word))
                if isinstance(node, ast.FunctionDef):
                    self.assertIs(node, function)
                if isinstance(node, ast.Call):
                    self.assertIsInstance(node.func, (ast.Name, ast.Attribute), (name, word, node.lineno))
                if isinstance(node, ast.Call) and isinstance(node.func, ast.Name):
                    self.assertNotIn(node.func.id, values, (name, word, node.lineno))
                    own = source_of(name, node.func.id) is not None or hasattr(builtins, node.func.id)
                    library = any(node.func.id in names for names in LIBRARY.values())
                    self.assertTrue(own or library, (name, word, node.lineno))

    def test_counts_alone_go_up(self):
        for (name, word), function in self.functions.items():
            for node in ast.walk(function):
                if isinstance(node, ast.AugAssign):
                    self.assertIsInstance(node.target, ast.Name, (name, word, node.lineno))
                    self.assertIsInstance(node.value, ast.Constant, (name, word, node.lineno))


if __name__ == "__main__":
    unittest.main()
