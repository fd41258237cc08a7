"""The form of the package's files: the rules of the language that can be seen in the text."""

import ast
import builtins
import os
import unittest

HERE = os.path.dirname(os.path.abspath(__file__))
FOLDER = os.path.join(os.path.dirname(HERE), "fromsize")
FILES = sorted(name for name in os.listdir(FOLDER) if name != "__pycache__")
LIBRARY = {"math": {"gcd", "lcm", "isqrt", "comb", "perm", "factorial"}, "heapq": {"heapify", "heappop", "heappush"}}
BUILTINS = {"len", "range", "enumerate", "zip", "min", "max", "sum", "abs", "sorted", "reversed", "int", "str", "bool", "list",
            "tuple", "dict", "set", "isinstance", "ord", "repr", "any", "all", "divmod", "ValueError", "NotImplemented",
            "staticmethod", "type"}
METHODS = {"append", "count", "endswith", "extend", "find", "get", "index", "insert", "items", "join", "keys", "pop", "remove",
           "replace", "setdefault", "split", "startswith", "strip", "values", "zfill", "bit_length"}
SPECIAL = {"__init__", "__eq__", "__str__", "__len__", "__add__", "__sub__", "__mul__", "__bool__"}
BARRED = (ast.AsyncFunctionDef, ast.GeneratorExp, ast.Lambda, ast.Try, ast.With, ast.Global, ast.Nonlocal, ast.Yield,
          ast.YieldFrom, ast.Await, ast.Match, ast.Set, ast.SetComp, ast.Div, ast.MatMult, ast.Import, ast.AnnAssign)


def text_of(name):
    with open(os.path.join(FOLDER, name), encoding="utf-8", newline="") as file:
        return file.read()


TREES = {name: ast.parse(text_of(name)) for name in FILES if name.endswith(".py")}


def defined(tree):
    """The names that a file binds by itself, and by its imports."""
    own = [node.name for node in tree.body if isinstance(node, (ast.FunctionDef, ast.ClassDef))]
    own += [target.id for node in tree.body if isinstance(node, ast.Assign) for target in node.targets]
    taken = [name.name for node in tree.body if isinstance(node, ast.ImportFrom) for name in node.names]
    return own, taken


class FilesTest(unittest.TestCase):
    def test_files(self):
        self.assertIn("__init__.py", FILES)
        for name in FILES:
            self.assertRegex(name, "^[a-z_]+[.]py$")

    def test_sizes_and_characters(self):
        for name in FILES:
            text = text_of(name)
            self.assertLessEqual({sign for sign in text} - {"\n"}, {chr(code) for code in range(32, 127)}, name)
            lines = text.splitlines()
            self.assertLessEqual(len(lines), 399, name)
            self.assertLessEqual(max(len(line) for line in lines), 120, name)
            self.assertEqual([line for line in lines if line != line.rstrip()], [], name)

    def test_functions_are_small(self):
        for name, tree in TREES.items():
            for node in ast.walk(tree):
                if isinstance(node, ast.FunctionDef):
                    self.assertLessEqual(node.end_lineno - node.lineno + 1, 40, (name, node.name))

    def test_module_level(self):
        for name, tree in TREES.items():
            self.assertIsNotNone(ast.get_docstring(tree), name)
            for node in tree.body[1:]:
                self.assertIsInstance(node, (ast.ImportFrom, ast.FunctionDef, ast.ClassDef, ast.Assign), name)
                if isinstance(node, ast.Assign):
                    items = node.value.elts if isinstance(node.value, ast.Tuple) else [node.value]
                    self.assertTrue(all(isinstance(item, ast.Constant) for item in items), name)
            own, taken = defined(tree)
            self.assertEqual(len(own + taken), len(set(own + taken)), name)
            self.assertFalse(set(own + taken) & set(dir(builtins)), name)

    def test_imports(self):
        edges = {}
        for name, tree in TREES.items():
            edges[name] = []
            for node in ast.walk(tree):
                if isinstance(node, ast.ImportFrom):
                    self.assertIn(node, tree.body)
                    names = {one.name for one in node.names}
                    self.assertTrue(all(one.asname is None for one in node.names))
                    self.assertEqual(node.level, 0)
                    if node.module in LIBRARY:
                        self.assertLessEqual(names, LIBRARY[node.module], name)
                    else:
                        package, module = node.module.split(".")
                        self.assertEqual(package, "fromsize")
                        self.assertLessEqual(names, set(defined(TREES[module + ".py"])[0]), name)
                        edges[name].append(module + ".py")
        done = []
        while len(done) < len(edges):
            ready = [name for name in edges if name not in done and all(other in done for other in edges[name])]
            self.assertTrue(ready, "files that import from each other")
            done += ready

    def test_every_import_is_used(self):
        for name, tree in TREES.items():
            used = {node.id for node in ast.walk(tree) if isinstance(node, ast.Name)}
            self.assertLessEqual(set(defined(tree)[1]), used, name)


class RowsTest(unittest.TestCase):
    def nodes(self, *kinds):
        return [(name, node) for name, tree in TREES.items() for node in ast.walk(tree) if isinstance(node, kinds)]

    def test_what_is_not_used(self):
        self.assertEqual([(name, node.lineno) for name, node in self.nodes(*BARRED)], [])
        for name, node in self.nodes(ast.Constant):
            self.assertNotIsInstance(node.value, (float, complex, bytes), (name, node.lineno))
            if isinstance(node.value, str):
                self.assertNotIn("%", node.value, (name, node.lineno))

    def test_exponents_are_literal(self):
        for name, node in self.nodes(ast.BinOp):
            if isinstance(node.op, ast.Pow):
                self.assertIsInstance(node.right, ast.Constant, name)
                self.assertLessEqual(node.right.value, 64)

    def test_builtins(self):
        for name, node in self.nodes(ast.Name):
            if hasattr(builtins, node.id):
                self.assertIn(node.id, BUILTINS, (name, node.lineno))
                self.assertIsInstance(node.ctx, ast.Load, (name, node.lineno))

    def test_parameters_and_variables(self):
        for name, tree in TREES.items():
            classes = {node.name for node in tree.body if isinstance(node, ast.ClassDef)}
            taken = set(defined(tree)[1]) | classes
            for node in ast.walk(tree):
                told = node.arg if isinstance(node, ast.arg) else None
                if isinstance(node, ast.Name) and isinstance(node.ctx, ast.Store):
                    told = node.id
                if told is not None:
                    self.assertNotIn(told, taken, (name, node.lineno))
                    self.assertFalse(hasattr(builtins, told), (name, node.lineno))
                    self.assertRegex(told, "^(_|[a-zA-Z][a-zA-Z0-9_]*)$")
                if isinstance(node, ast.arg):
                    self.assertIsNone(node.annotation)

    def test_classes(self):
        kinds = {node.name: node for _, node in self.nodes(ast.ClassDef)}
        attributes = {node.attr for _, node in self.nodes(ast.Attribute) if isinstance(node.ctx, ast.Store)}
        for name, node in self.nodes(ast.ClassDef):
            self.assertEqual(node.decorator_list, [])
            self.assertLessEqual(len(node.bases), 1)
            for row in node.body:
                self.assertIsInstance(row, (ast.FunctionDef, ast.Expr), (name, row.lineno))
                if isinstance(row, ast.FunctionDef):
                    self.assertNotIn(row.name, attributes, (name, row.lineno))
                    self.assertTrue(row.name in SPECIAL or not row.name.startswith("_"), row.name)
                    told = [decorator.id for decorator in row.decorator_list]
                    self.assertIn(told, ([], ["staticmethod"]))
        for name, node in self.nodes(ast.FunctionDef):
            if node in TREES[name].body:
                self.assertEqual(node.decorator_list, [])
        self.assertIn("Sum", kinds)

    def test_methods_of_builtin_values(self):
        own = {row.name for _, node in self.nodes(ast.ClassDef) for row in node.body if isinstance(row, ast.FunctionDef)}
        for name, node in self.nodes(ast.Call):
            if isinstance(node.func, ast.Attribute):
                self.assertIn(node.func.attr, METHODS | own, (name, node.lineno))

    def test_truths_of_lists(self):
        """Beside a class with its own equality, any, all and the like take a list."""
        for name, node in self.nodes(ast.Call):
            told = node.func.id if isinstance(node.func, ast.Name) else None
            if told in ("any", "all", "sum"):
                self.assertEqual(len(node.args), 1)
                self.assertIsInstance(node.args[0], (ast.ListComp, ast.Name), (name, node.lineno))

    def test_what_stands_beside_is(self):
        for name, node in self.nodes(ast.Compare):
            for operator, right in zip(node.ops, node.comparators):
                if isinstance(operator, (ast.Is, ast.IsNot)):
                    asks = isinstance(node.left, ast.Call) and ast.unparse(node.left.func) == "type"
                    self.assertTrue(asks or isinstance(right, ast.Constant), (name, node.lineno))

    def test_what_texts_return(self):
        """Each return of a text is the join of a literal, and nothing stands behind the last one."""
        for name, node in self.nodes(ast.FunctionDef):
            if node.name == "__str__":
                self.assertIsInstance(node.body[-1], ast.Return, name)
                for row in ast.walk(node):
                    if isinstance(row, ast.Return):
                        self.assertTrue(ast.unparse(row.value).startswith("' '.join("), name)
            if node.name == "__init__":
                self.assertFalse([row for row in ast.walk(node) if isinstance(row, ast.Return)], name)

    def test_counts_go_up_by_literals(self):
        """Beside operators += takes literal integers alone."""
        for name, node in self.nodes(ast.AugAssign):
            self.assertIsInstance(node.op, ast.Add, (name, node.lineno))
            self.assertIsInstance(node.target, ast.Name, (name, node.lineno))
            self.assertIsInstance(node.value, ast.Constant, (name, node.lineno))
            self.assertIs(type(node.value.value), int, (name, node.lineno))

    def test_sets_stand_in_sorted_alone(self):
        for name, node in self.nodes(ast.Call):
            inside = [part for part in node.args if isinstance(part, ast.Call) and ast.unparse(part.func) == "set"]
            self.assertTrue(not inside or ast.unparse(node.func) == "sorted", (name, node.lineno))
        told = [node for _, node in self.nodes(ast.Call) if ast.unparse(node.func) == "set"]
        self.assertEqual(len(told), len([1 for _, node in self.nodes(ast.Call) if ast.unparse(node).startswith("sorted(set(")]))

    def test_methods_and_attributes_have_names_of_their_own(self):
        methods, static, attributes = set(), set(), set()
        for _, node in self.nodes(ast.ClassDef):
            for row in node.body:
                if isinstance(row, ast.FunctionDef):
                    (static if row.decorator_list else methods).add(row.name)
        for _, node in self.nodes(ast.Attribute):
            if isinstance(node.ctx, ast.Store):
                attributes.add(node.attr)
        self.assertFalse((methods & attributes) | (static & attributes) | (methods & static))
        builtin = set(dir(str)) | set(dir(list)) | set(dir(dict)) | set(dir(int)) | set(dir(bytes)) | set(dir(set))
        self.assertFalse((methods | static | attributes) & {word for word in builtin if not word.startswith("__")})

    def test_library_names_are_only_called(self):
        for name, tree in TREES.items():
            taken = {one.name for node in tree.body if isinstance(node, ast.ImportFrom) and node.module in LIBRARY for one in node.names}
            read = [node for node in ast.walk(tree) if isinstance(node, ast.Name) and node.id in taken]
            called = [node for node in ast.walk(tree) if isinstance(node, ast.Call) and isinstance(node.func, ast.Name)
                      and node.func.id in taken and not node.keywords]
            self.assertEqual(len(read), len(called), name)

    def test_equality_asks_for_its_class_first(self):
        for name, node in self.nodes(ast.FunctionDef):
            if node.name == "__eq__":
                self.assertIn("isinstance(other, ", ast.unparse(node.body[0]), name)

    def test_type_is_asked_only_beside_is(self):
        for name, tree in TREES.items():
            asked = [node for node in ast.walk(tree) if isinstance(node, ast.Name) and node.id == "type"]
            beside = [part for node in ast.walk(tree) if isinstance(node, ast.Compare)
                      and isinstance(node.ops[0], (ast.Is, ast.IsNot))
                      for part in [node.left, *node.comparators]
                      if isinstance(part, ast.Call) and ast.unparse(part.func) == "type"]
            self.assertEqual(len(asked), len(beside), name)


if __name__ == "__main__":
    unittest.main()
