"""The form of the package's files, as far as a short look at them tells: see LANGUAGE.md for all of it."""

import ast
import builtins
import pathlib
import re
import unittest

PACKAGE = pathlib.Path(__file__).resolve().parent.parent / "samerunsdesk"
OUTSIDE = (
    ast.With, ast.Match, ast.Delete, ast.Global, ast.Nonlocal, ast.Assert, ast.Yield, ast.YieldFrom,
    ast.AsyncFunctionDef, ast.Await, ast.Div, ast.Set, ast.SetComp, ast.DictComp, ast.GeneratorExp,
    ast.NamedExpr, ast.Starred, ast.Import,
)
METHODS = (
    "append clear copy count endswith extend find get index insert items join keys pop remove replace reverse "
    "setdefault split startswith strip update values bit_length"
).split()
CALLED = (
    "len range enumerate zip min max sum abs sorted reversed int str bool list tuple dict isinstance ord any all "
    "divmod"
).split()
WORDS_NOWHERE = (
    "type typing typing_extensions enum Enum IntEnum StrEnum Flag IntFlag Generic Protocol ABC ABCMeta namedtuple "
    "NamedTuple TypedDict TYPE_CHECKING abstractmethod"
).split()
NAMES_NOWHERE = "register mro elements open input version_info with_traceback add_note format format_map".split()
WALKED_AT_ONCE = "zip enumerate reversed range items keys values".split()
WALKERS = "list tuple dict sorted sum any all enumerate zip min max".split()


def trees():
    return [(path, ast.parse(path.read_text("ascii"))) for path in sorted(PACKAGE.glob("*.py"))]


def own_names():
    return {
        node.name
        for path, tree in trees()
        for node in ast.walk(tree)
        if isinstance(node, (ast.FunctionDef, ast.ClassDef))
    }


def defined_at_top(tree):
    names = []
    for node in tree.body:
        if isinstance(node, (ast.FunctionDef, ast.ClassDef)):
            names.append(node.name)
        if isinstance(node, ast.Assign):
            names.append(node.targets[0].id)
    return names


def imported(tree):
    """The package's file and the name of each import."""
    return [
        (node.module.removeprefix("samerunsdesk."), alias.name)
        for node in tree.body
        if isinstance(node, ast.ImportFrom)
        for alias in node.names
    ]


def bound_inside(tree):
    """The names of parameters and locals."""
    names = set()
    for function in ast.walk(tree):
        if isinstance(function, (ast.FunctionDef, ast.Lambda)):
            names |= {node.arg for node in ast.walk(function) if isinstance(node, ast.arg)}
            names |= {
                node.id
                for node in ast.walk(function)
                if isinstance(node, ast.Name) and isinstance(node.ctx, ast.Store)
            }
    return names


def called_name(node):
    if not isinstance(node, ast.Call):
        return None
    return node.func.id if isinstance(node.func, ast.Name) else node.func.attr


def walked_on_the_spot(tree):
    """What stands behind the in of a loop, or is the first thing in a call that walks it."""
    found = []
    for node in ast.walk(tree):
        if isinstance(node, (ast.For, ast.comprehension)):
            found.append(node.iter)
        if called_name(node) in WALKERS:
            found += node.args[:1]
    return found


class Form(unittest.TestCase):
    def test_files(self):
        names = {path.name for path in PACKAGE.iterdir() if path.name != "__pycache__"}
        wanted = ["__init__.py", "programs.py", "reading.py", "runs.py", "searching.py", "tables.py"]
        self.assertEqual(sorted(names), wanted)

    def test_signs_and_sizes(self):
        for path, tree in trees():
            lines = path.read_text("ascii").split("\n")
            self.assertLessEqual(len(lines), 400)
            for line in lines:
                self.assertLessEqual(len(line), 120, line)
                self.assertTrue(all(" " <= sign <= "~" for sign in line), line)
            for node in ast.walk(tree):
                if isinstance(node, ast.FunctionDef):
                    self.assertLessEqual(node.end_lineno - node.lineno + 1, 40, node.name)

    def test_kinds_of_statements_and_values(self):
        for path, tree in trees():
            for node in ast.walk(tree):
                self.assertNotIsInstance(node, OUTSIDE)
                if isinstance(node, ast.Constant):
                    self.assertNotIsInstance(node.value, (float, bytes, complex))
                if isinstance(node, ast.Assign):
                    self.assertEqual(len(node.targets), 1)
                    self.assertNotIsInstance(node.targets[0], (ast.Tuple, ast.List))
                if isinstance(node, (ast.For, ast.While)):
                    self.assertEqual(node.orelse, [])

    def test_names_that_are_called(self):
        own = own_names() | {"ValueError"}
        for path, tree in trees():
            for node in ast.walk(tree):
                if not isinstance(node, ast.Call):
                    continue
                if isinstance(node.func, ast.Name):
                    self.assertIn(node.func.id, own | set(CALLED))
                else:
                    self.assertIn(node.func.attr, own | set(METHODS))

    def test_imports(self):
        modules = {path.stem: tree for path, tree in trees()}
        drawn = {name: {module for module, what in imported(tree)} for name, tree in modules.items()}
        for name, tree in modules.items():
            for module, what in imported(tree):
                self.assertIn(what, defined_at_top(modules[module]), (name, module))
        while drawn:
            free = [name for name in drawn if not drawn[name] & set(drawn)]
            self.assertTrue(free, drawn)
            drawn = {name: drawn[name] for name in drawn if name not in free}

    def test_names(self):
        for path, tree in trees():
            words = re.findall("[A-Za-z0-9_]+", path.read_text("ascii"))
            self.assertEqual([word for word in words if word in WORDS_NOWHERE], [])
            self.assertEqual([word for word in words if word.startswith("_") and word != "__init__"], [])
            used = {node.id for node in ast.walk(tree) if isinstance(node, ast.Name)} | own_names()
            used |= {node.attr for node in ast.walk(tree) if isinstance(node, ast.Attribute)}
            self.assertEqual(used & set(NAMES_NOWHERE), set())
            top = defined_at_top(tree) + [what for module, what in imported(tree)]
            self.assertEqual(len(top), len(set(top)))
            classes = [node.name for node in tree.body if isinstance(node, ast.ClassDef)]
            taken = set(classes) | {what for module, what in imported(tree)} | set(dir(builtins))
            self.assertEqual(bound_inside(tree) & taken, set())

    def test_names_of_methods_and_values(self):
        methods, values = set(), set()
        for path, tree in trees():
            for node in ast.walk(tree):
                if isinstance(node, ast.ClassDef):
                    names = [part.name for part in node.body if isinstance(part, ast.FunctionDef)]
                    self.assertEqual(len(names), len(set(names)), node.name)
                    methods |= set(names)
                if isinstance(node, ast.Attribute) and isinstance(node.ctx, ast.Store):
                    values.add(node.attr)
        self.assertEqual(methods & values, set())
        for kind in [str, int, list, dict, set, bytes]:
            self.assertEqual((methods | values) & set(dir(kind)) - {"__init__"}, set())

    def test_what_is_walked_at_once(self):
        for path, tree in trees():
            walked = walked_on_the_spot(tree)
            for node in ast.walk(tree):
                if called_name(node) in WALKED_AT_ONCE:
                    self.assertIn(node, walked, (path.name, node.lineno))


if __name__ == "__main__":
    unittest.main()
