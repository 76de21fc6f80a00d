"""The form of the package's own files: names, imports, sizes and words."""

import ast
import pathlib
import re
import unittest

PACKAGE = pathlib.Path(__file__).resolve().parent.parent / "manyonline"
FILES = sorted(PACKAGE.glob("*.py"))

BARRED_WORDS = (
    "type", "typing", "typing_extensions", "enum", "Enum", "IntEnum", "StrEnum", "Flag", "IntFlag", "Generic",
    "Protocol", "ABC", "ABCMeta", "namedtuple", "NamedTuple", "TypedDict", "TYPE_CHECKING", "abstractmethod",
)
BARRED_PARTS = ("dataclass", "overload", "contextmanager")
STATEMENTS = (
    ast.FunctionDef, ast.ClassDef, ast.Return, ast.Assign, ast.AugAssign, ast.For, ast.While, ast.If, ast.Raise,
    ast.Try, ast.ImportFrom, ast.Expr, ast.Pass, ast.Break, ast.Continue,
)
PYTHONS_OWN = (
    "len", "range", "enumerate", "zip", "min", "max", "sum", "abs", "sorted", "reversed", "int", "str", "bool",
    "list", "tuple", "dict", "set", "isinstance", "ord", "repr", "any", "all", "divmod", "ValueError",
)
METHODS = (
    "append", "clear", "copy", "count", "endswith", "extend", "find", "get", "index", "insert", "items", "join",
    "keys", "pop", "remove", "replace", "reverse", "setdefault", "split", "startswith", "strip", "update", "values",
)


class LanguageTest(unittest.TestCase):
    def trees(self):
        for path in FILES:
            yield path, ast.parse(path.read_text())

    def test_there_are_files_and_nothing_else(self):
        self.assertGreater(len(FILES), 1)
        names = [path.name for path in PACKAGE.iterdir() if path.name != "__pycache__"]
        for name in names:
            self.assertRegex(name, r"^(__init__|[a-z][a-z0-9_]*)\.py$")

    def test_sizes_and_signs(self):
        for path in FILES:
            lines = path.read_text().split("\n")
            self.assertLessEqual(len(lines), 400, path)
            for line in lines:
                self.assertLessEqual(len(line), 120, path)
                self.assertRegex(line, r"^[ -~]*$", path)

    def test_sizes_of_functions(self):
        for path, tree in self.trees():
            for node in ast.walk(tree):
                if isinstance(node, ast.FunctionDef):
                    self.assertLessEqual(node.end_lineno - node.lineno + 1, 40, node.name)

    def test_words(self):
        for path in FILES:
            whole = path.read_text()
            words = set(re.findall(r"[A-Za-z0-9_]+", whole))
            self.assertEqual(words & set(BARRED_WORDS), set(), path)
            for part in BARRED_PARTS:
                self.assertNotIn(part, whole, path)
        for path, tree in self.trees():
            for node in ast.walk(tree):
                if isinstance(node, ast.Constant) and isinstance(node.value, str):
                    self.assertEqual(set(re.findall(r"[A-Za-z0-9_]+", node.value)) & set(BARRED_WORDS), set(), path)

    def test_statements(self):
        for path, tree in self.trees():
            for node in ast.walk(tree):
                if isinstance(node, ast.stmt):
                    self.assertIsInstance(node, STATEMENTS, f"{path}:{node.lineno}")
                if isinstance(node, ast.Assign):
                    self.assertEqual(len(node.targets), 1)
                    self.assertIsInstance(node.targets[0], (ast.Name, ast.Attribute, ast.Subscript))
                if isinstance(node, (ast.For, ast.While)):
                    self.assertEqual(node.orelse, [])
                if isinstance(node, (ast.FunctionDef, ast.ClassDef)):
                    self.assertEqual(node.decorator_list, [])

    def test_expressions(self):
        barred = (
            ast.GeneratorExp, ast.SetComp, ast.DictComp, ast.Starred, ast.NamedExpr, ast.Div, ast.Pow, ast.JoinedStr,
            ast.Set, ast.Yield, ast.Await, ast.Lambda, ast.Is,
        )
        for path, tree in self.trees():
            for node in ast.walk(tree):
                if isinstance(node, ast.Compare) and isinstance(node.ops[0], (ast.Is, ast.IsNot)):
                    self.assertIsInstance(node.comparators[0], ast.Constant)
                elif not isinstance(node, ast.Is):
                    self.assertNotIsInstance(node, barred, path)
                if isinstance(node, ast.Constant):
                    self.assertIsInstance(node.value, (int, str, type(None)))

    def test_imports(self):
        for path, tree in self.trees():
            for node in ast.walk(tree):
                if isinstance(node, ast.ImportFrom):
                    self.assertEqual(node.level, 0)
                    self.assertRegex(node.module, r"^manyonline\.[a-z]+$")
                    self.assertTrue(self.defines(node.module, [name.name for name in node.names]), path)
                    self.assertTrue(all(name.asname is None for name in node.names))

    def defines(self, module, names):
        tree = ast.parse((PACKAGE / (module.split(".")[1] + ".py")).read_text())
        own = [node.name for node in tree.body if isinstance(node, (ast.FunctionDef, ast.ClassDef))]
        own += [node.targets[0].id for node in tree.body if isinstance(node, ast.Assign)]
        return set(names) <= set(own)

    def test_every_import_is_used(self):
        for path, tree in self.trees():
            drawn = [name.name for node in tree.body if isinstance(node, ast.ImportFrom) for name in node.names]
            used = {node.id for node in ast.walk(tree) if isinstance(node, ast.Name)}
            self.assertEqual(set(drawn) - used, set(), path)

    def test_names(self):
        for path, tree in self.trees():
            for node in ast.walk(tree):
                if isinstance(node, ast.Name):
                    self.assertRegex(node.id, r"^[A-Za-z][A-Za-z0-9_]*$")
                if isinstance(node, ast.Name) and node.id in dir(__import__("builtins")):
                    self.assertIn(node.id, PYTHONS_OWN, path)
                    self.assertIsInstance(node.ctx, ast.Load)
                if isinstance(node, ast.arg):
                    self.assertNotIn(node.arg, dir(__import__("builtins")))

    def test_no_local_is_called_like_an_import_or_a_class(self):
        for path, tree in self.trees():
            taken = {name.name for node in tree.body if isinstance(node, ast.ImportFrom) for name in node.names}
            taken |= {node.name for node in tree.body if isinstance(node, (ast.ClassDef, ast.FunctionDef))}
            for node in ast.walk(tree):
                if isinstance(node, ast.arg):
                    self.assertNotIn(node.arg, taken, path)
                if isinstance(node, ast.Name) and isinstance(node.ctx, ast.Store):
                    self.assertNotIn(node.id, taken, path)

    def test_no_two_files_draw_from_one_another(self):
        drawn = {}
        for path, tree in self.trees():
            modules = [node.module.split(".")[1] for node in tree.body if isinstance(node, ast.ImportFrom)]
            drawn[path.stem] = set(modules)
        while drawn:
            free = [name for name in drawn if not drawn[name] & set(drawn)]
            self.assertNotEqual(free, [], "these draw from one another: " + " ".join(sorted(drawn)))
            for name in free:
                drawn.pop(name)

    def test_walked_at_once(self):
        lazy = ("zip", "enumerate", "reversed", "range")
        for path, tree in self.trees():
            walked = [node.iter for node in ast.walk(tree) if isinstance(node, (ast.For, ast.comprehension))]
            for node in ast.walk(tree):
                if isinstance(node, ast.Call) and isinstance(node.func, ast.Name) and node.func.id in lazy:
                    self.assertIn(node, walked, path)

    def test_methods(self):
        own = set()
        values = set()
        for path, tree in self.trees():
            for node in ast.walk(tree):
                if isinstance(node, ast.ClassDef):
                    own |= {part.name for part in node.body if isinstance(part, ast.FunctionDef)}
                if isinstance(node, ast.Attribute) and isinstance(node.ctx, ast.Store):
                    values.add(node.attr)
        self.assertEqual(own & values, set())
        for path, tree in self.trees():
            for node in ast.walk(tree):
                if isinstance(node, ast.Call) and isinstance(node.func, ast.Attribute):
                    self.assertIn(node.func.attr, tuple(own) + METHODS, path)
        for kind in (str, int, list, dict, set, bytes):
            self.assertEqual((own - {"__init__"} | values) & set(dir(kind)), set())

    def test_the_top_of_a_module(self):
        for path, tree in self.trees():
            for node in tree.body:
                self.assertIsInstance(node, (ast.Expr, ast.ImportFrom, ast.FunctionDef, ast.ClassDef, ast.Assign))
                if isinstance(node, ast.Assign):
                    for part in ast.walk(node.value):
                        self.assertIsInstance(
                            part, (ast.Constant, ast.Tuple, ast.Name, ast.Load, ast.UnaryOp, ast.USub), path)
                        if isinstance(part, ast.Name):
                            self.assertIn(part.id, self.functions_above(tree, node.lineno), path)

    def functions_above(self, tree, row):
        return [node.name for node in tree.body if isinstance(node, ast.FunctionDef) and node.lineno < row]


if __name__ == "__main__":
    unittest.main()
