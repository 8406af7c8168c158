"""The form of the package's files, as far as a short look at them tells: see LANGUAGE.md for all of it."""

import ast
import pathlib
import unittest

PACKAGE = pathlib.Path(__file__).resolve().parent.parent / "samerunsdesk"
OUTSIDE = (
    ast.With, ast.Match, ast.Delete, ast.Global, ast.Nonlocal, ast.Assert, ast.Yield, ast.YieldFrom,
    ast.AsyncFunctionDef, ast.Await, ast.Div, ast.Set, ast.SetComp, ast.DictComp, ast.GeneratorExp,
    ast.NamedExpr, ast.Starred, ast.Import,
)
METHODS = (
    "append clear copy count endswith extend find get index insert items join keys pop remove replace reverse "
    "setdefault split startswith strip update values bit_length"
).split()
CALLED = (
    "len range enumerate zip min max sum abs sorted reversed int str bool list tuple dict isinstance ord any all "
    "divmod"
).split()


def trees():
    return [(path, ast.parse(path.read_text("ascii"))) for path in sorted(PACKAGE.glob("*.py"))]


def own_names():
    return {
        node.name
        for path, tree in trees()
        for node in ast.walk(tree)
        if isinstance(node, (ast.FunctionDef, ast.ClassDef))
    }


class Form(unittest.TestCase):
    def test_files(self):
        names = {path.name for path in PACKAGE.iterdir() if path.name != "__pycache__"}
        self.assertEqual(names, {"__init__.py", "programs.py"})

    def test_signs_and_sizes(self):
        for path, tree in trees():
            lines = path.read_text("ascii").split("\n")
            self.assertLessEqual(len(lines), 400)
            for line in lines:
                self.assertLessEqual(len(line), 120, line)
                self.assertTrue(all(" " <= sign <= "~" for sign in line), line)
            for node in ast.walk(tree):
                if isinstance(node, ast.FunctionDef):
                    self.assertLessEqual(node.end_lineno - node.lineno + 1, 40, node.name)

    def test_kinds_of_statements_and_values(self):
        for path, tree in trees():
            for node in ast.walk(tree):
                self.assertNotIsInstance(node, OUTSIDE)
                if isinstance(node, ast.Constant):
                    self.assertNotIsInstance(node.value, (float, bytes, complex))
                if isinstance(node, ast.Assign):
                    self.assertEqual(len(node.targets), 1)
                    self.assertNotIsInstance(node.targets[0], (ast.Tuple, ast.List))
                if isinstance(node, (ast.For, ast.While)):
                    self.assertEqual(node.orelse, [])

    def test_names_that_are_called(self):
        own = own_names() | {"ValueError"}
        for path, tree in trees():
            for node in ast.walk(tree):
                if not isinstance(node, ast.Call):
                    continue
                if isinstance(node.func, ast.Name):
                    self.assertIn(node.func.id, own | set(CALLED))
                else:
                    self.assertIn(node.func.attr, own | set(METHODS))


if __name__ == "__main__":
    unittest.main()
