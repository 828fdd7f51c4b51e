"""Some of the rules of the language in which the package is written: sizes, characters, imports, kinds of code."""

import ast
import builtins
import unittest
from pathlib import Path

import emptyfirst
from emptyfirst import errors

FOLDER = Path(emptyfirst.__file__).parent
BUILTINS = set(
    "len range enumerate zip min max sum abs sorted reversed int str bool list tuple dict set isinstance ord repr "
    "any all divmod ValueError TypeError property".split()
)
BARRED = (
    ast.GeneratorExp, ast.Lambda, ast.Global, ast.Nonlocal, ast.AsyncFunctionDef, ast.Await, ast.Import,
    ast.With, ast.Match, ast.Yield, ast.YieldFrom, ast.NamedExpr, ast.Delete, ast.AnnAssign, ast.Starred,
    ast.Assert, ast.Div, ast.MatMult,
)
METHODS = set(
    "__init__ __eq__ __len__ __getitem__ __iter__ __call__ __rshift__ __or__ __invert__".split()
)
# What an operator, a property or __eq__ calls by the name of a method: these change nothing.
HARMLESS = {"items"}


def sources():
    return [(path, path.read_text(encoding="ascii")) for path in sorted(FOLDER.glob("*.py"))]


def imports_of(tree):
    return [node for node in ast.walk(tree) if isinstance(node, ast.ImportFrom)]


class LanguageTest(unittest.TestCase):
    def test_files(self):
        names = sorted(path.name for path in FOLDER.iterdir() if path.name != "__pycache__")
        self.assertIn("__init__.py", names)
        for name in names:
            self.assertRegex(name, r"\A[a-z_]+\.py\Z")

    def test_sizes_and_characters(self):
        for path, text in sources():
            lines = text.split("\n")
            self.assertLessEqual(len(lines), 399, path)
            for line in lines:
                self.assertLessEqual(len(line), 120, path)
                self.assertTrue(all(" " <= letter <= "~" for letter in line), path)
            for node in ast.walk(ast.parse(text)):
                if isinstance(node, ast.FunctionDef):
                    self.assertLessEqual(node.end_lineno - node.lineno + 1, 40, (path, node.name))

    def test_imports(self):
        needs = {}
        for path, text in sources():
            tree = ast.parse(text)
            needs[path.stem] = []
            for node in imports_of(tree):
                self.assertEqual((node.level, node.module.split(".")[0]), (0, "emptyfirst"), path)
                self.assertFalse([name for name in node.names if name.name == "*" or name.asname], path)
                self.assertIn(node, tree.body, path)
                needs[path.stem].append(node.module.split(".")[1])
        self.assertEqual(needs["__init__"], [])
        while needs:
            free = [name for name in needs if not [need for need in needs[name] if need in needs]]
            self.assertTrue(free, needs)
            needs = {name: needs[name] for name in needs if name not in free}

    def test_kinds_of_code(self):
        for path, text in sources():
            for node in ast.walk(ast.parse(text)):
                self.assertNotIsInstance(node, BARRED, (path, getattr(node, "lineno", 0)))
                if isinstance(node, ast.Constant):
                    self.assertIn(type(node.value), (int, str, bool, type(None)), path)
                if isinstance(node, ast.Name) and node.id != "_" and hasattr(builtins, node.id):
                    self.assertIn(node.id, BUILTINS, (path, node.lineno))
                    self.assertIsInstance(node.ctx, ast.Load, (path, node.lineno))

    def test_errors_that_are_caught(self):
        """Own errors alone are caught, by name, and raised ones are made on the spot."""
        own = {name for name, kind in vars(errors).items() if isinstance(kind, type)}
        for path, text in sources():
            for node in ast.walk(ast.parse(text)):
                if isinstance(node, ast.Try):
                    self.assertFalse(node.finalbody or node.orelse, (path, node.lineno))
                    for handler in node.handlers:
                        self.assertIn(handler.type.id, own, (path, node.lineno))
                if isinstance(node, ast.Raise):
                    self.assertIn(node.exc.func.id, own | {"TypeError"}, (path, node.lineno))

    def test_strings(self):
        for path, text in sources():
            for node in ast.walk(ast.parse(text)):
                if isinstance(node, ast.FormattedValue):
                    self.assertEqual((node.conversion, node.format_spec), (-1, None), (path, node.lineno))
                if isinstance(node, ast.Constant) and isinstance(node.value, str):
                    self.assertNotIn("%", node.value, (path, node.lineno))
                    self.assertFalse(node.value.endswith(("._", ".__")), (path, node.lineno))

    def test_classes(self):
        for path, node in self.classes():
            methods = {part.name: part for part in node.body if isinstance(part, ast.FunctionDef)}
            self.assertEqual(len(methods), len([part for part in node.body if isinstance(part, ast.FunctionDef)]))
            named = {name for name in methods if name.startswith("__")}
            self.assertLessEqual(named, METHODS, (path, node.name))
            if "__getitem__" in named:
                self.assertIsInstance(methods["__iter__"].body[-1], ast.Raise, (path, node.name))
            if "__eq__" in named:
                self.assertTrue(ast.unparse(methods["__eq__"].body[0]).startswith(
                    "if not isinstance(other, %s)" % node.name), (path, node.name))
            if "__len__" in named:
                self.assertTrue(ast.unparse(methods["__len__"].body[-1]).startswith("return len("), (path, node.name))

    def test_operators_and_properties_change_nothing(self):
        for path, node in self.classes():
            for method in node.body:
                if isinstance(method, ast.FunctionDef) and self.is_quiet(method):
                    for part in ast.walk(method):
                        where = (path, node.name, method.name)
                        self.assertNotIsInstance(part, (ast.AugAssign, ast.For, ast.While), where)
                        if isinstance(part, ast.Assign):
                            self.assertTrue(all(isinstance(one, ast.Name) for one in part.targets), where)
                        if isinstance(part, ast.Call) and isinstance(part.func, ast.Attribute):
                            self.assertIn(part.func.attr, HARMLESS, where)

    def is_quiet(self, method):
        told = [one.id for one in method.decorator_list if isinstance(one, ast.Name)]
        return told == ["property"] or method.name.startswith("__") and method.name not in ("__init__", "__call__")

    def classes(self):
        return [(path, node) for path, text in sources() for node in ast.parse(text).body
                if isinstance(node, ast.ClassDef)]

    def test_imports_name_the_defining_file(self):
        defined = {path.stem: {getattr(node, "name", None) for node in ast.parse(text).body}
                   for path, text in sources()}
        for path, text in sources():
            for node in imports_of(ast.parse(text)):
                for name in node.names:
                    self.assertIn(name.name, defined[node.module.split(".")[1]], (path, name.name))

    def test_module_level(self):
        kinds = (ast.ImportFrom, ast.FunctionDef, ast.ClassDef, ast.Assign)
        for path, text in sources():
            tree = ast.parse(text)
            self.assertTrue(ast.get_docstring(tree), path)
            for node in tree.body[1:]:
                self.assertIsInstance(node, kinds, (path, node.lineno))
            for node in ast.walk(tree):
                if isinstance(node, (ast.FunctionDef, ast.ClassDef)) and not node.name.startswith("__"):
                    self.assertTrue(ast.get_docstring(node) or node.name == "look", (path, node.name))


if __name__ == "__main__":
    unittest.main()
