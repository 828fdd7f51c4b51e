"""Some of the rules of the language in which the package is written: sizes, characters, imports, kinds of code."""

import ast
import builtins
import unittest
from pathlib import Path

import emptyfirst

FOLDER = Path(emptyfirst.__file__).parent
BUILTINS = set(
    "len range enumerate zip min max sum abs sorted reversed int str bool list tuple dict set isinstance ord repr "
    "any all divmod ValueError TypeError property".split()
)
BARRED = (
    ast.GeneratorExp, ast.Lambda, ast.Global, ast.Nonlocal, ast.AsyncFunctionDef, ast.Await, ast.Import, ast.Try,
    ast.With, ast.Match, ast.Yield, ast.YieldFrom, ast.NamedExpr, ast.Delete, ast.AnnAssign, ast.Starred,
    ast.JoinedStr, ast.Assert, ast.Div, ast.MatMult,
)


def sources():
    return [(path, path.read_text(encoding="ascii")) for path in sorted(FOLDER.glob("*.py"))]


def imports_of(tree):
    return [node for node in ast.walk(tree) if isinstance(node, ast.ImportFrom)]


class LanguageTest(unittest.TestCase):
    def test_files(self):
        names = sorted(path.name for path in FOLDER.iterdir() if path.name != "__pycache__")
        self.assertIn("__init__.py", names)
        for name in names:
            self.assertRegex(name, r"\A[a-z_]+\.py\Z")

    def test_sizes_and_characters(self):
        for path, text in sources():
            lines = text.split("\n")
            self.assertLessEqual(len(lines), 399, path)
            for line in lines:
                self.assertLessEqual(len(line), 120, path)
                self.assertTrue(all(" " <= letter <= "~" for letter in line), path)
            for node in ast.walk(ast.parse(text)):
                if isinstance(node, ast.FunctionDef):
                    self.assertLessEqual(node.end_lineno - node.lineno + 1, 40, (path, node.name))

    def test_imports(self):
        needs = {}
        for path, text in sources():
            tree = ast.parse(text)
            needs[path.stem] = []
            for node in imports_of(tree):
                self.assertEqual((node.level, node.module.split(".")[0]), (0, "emptyfirst"), path)
                self.assertFalse([name for name in node.names if name.name == "*" or name.asname], path)
                self.assertIn(node, tree.body, path)
                needs[path.stem].append(node.module.split(".")[1])
        self.assertEqual(needs["__init__"], [])
        while needs:
            free = [name for name in needs if not [need for need in needs[name] if need in needs]]
            self.assertTrue(free, needs)
            needs = {name: needs[name] for name in needs if name not in free}

    def test_kinds_of_code(self):
        for path, text in sources():
            for node in ast.walk(ast.parse(text)):
                self.assertNotIsInstance(node, BARRED, (path, getattr(node, "lineno", 0)))
                if isinstance(node, ast.Constant):
                    self.assertIn(type(node.value), (int, str, bool, type(None)), path)
                if isinstance(node, ast.Name) and node.id != "_" and hasattr(builtins, node.id):
                    self.assertIn(node.id, BUILTINS, (path, node.lineno))
                    self.assertIsInstance(node.ctx, ast.Load, (path, node.lineno))

    def test_module_level(self):
        kinds = (ast.ImportFrom, ast.FunctionDef, ast.ClassDef, ast.Assign)
        for path, text in sources():
            tree = ast.parse(text)
            self.assertTrue(ast.get_docstring(tree), path)
            for node in tree.body[1:]:
                self.assertIsInstance(node, kinds, (path, node.lineno))
            for node in ast.walk(tree):
                if isinstance(node, (ast.FunctionDef, ast.ClassDef)) and not node.name.startswith("__"):
                    self.assertTrue(ast.get_docstring(node) or node.name == "look", (path, node.name))


if __name__ == "__main__":
    unittest.main()
