"""The package keeps to its part of the language, as far as that can be read off its files."""

import ast
import builtins
import re
import unittest
from pathlib import Path

PACKAGE = Path(__file__).resolve().parent.parent / "cutorders"
# No sets, errors, lambdas, f-strings, powers and `is`: the package needs none of them, so that their rows hold by
# themselves. What comes to be needed is put in here together with a test of its row.
OWN_NAMES = set(
    "len range enumerate zip min max sum abs sorted reversed int str bool list tuple dict ord repr any all"
    " divmod".split())
OWN_METHODS = set(
    "append clear copy count endswith extend find get index insert isalnum isalpha isdigit islower isspace isupper"
    " items join keys ljust lower lstrip partition pop remove replace reverse rfind rjust rpartition rsplit rstrip"
    " setdefault split splitlines startswith strip update upper values zfill bit_length".split())
NODES = set(
    "Module Expr Constant ImportFrom alias FunctionDef arguments arg ClassDef Assign AugAssign If While For Return"
    " Break Continue Pass Call Name Load Store Attribute Subscript Slice List Tuple Dict BinOp UnaryOp BoolOp Compare"
    " IfExp ListComp comprehension keyword Add Sub Mult FloorDiv Mod BitAnd BitOr BitXor LShift RShift Invert USub UAdd"
    " Not And Or Eq NotEq Lt LtE Gt GtE In NotIn".split())
KEYWORDS = {"sorted": ["key", "reverse"], "min": ["key", "default"], "max": ["key", "default"], "sum": ["start"],
            "enumerate": ["start"], "zip": ["strict"]}
WALKED_AT_ONCE = ("zip", "enumerate", "reversed", "range")
NOWHERE = re.compile(
    r"\b(type|typing|typing_extensions|enum|Enum|IntEnum|StrEnum|Flag|IntFlag|Generic|Protocol|ABC|ABCMeta|namedtuple"
    r"|NamedTuple|TypedDict|TYPE_CHECKING|abstractmethod)\b|dataclass|overload|contextmanager")
NOT_USED = set(
    "register mro elements open input version_info with_traceback add_note attrgetter breakpoint builtins compile"
    " copyright credits delattr dir eval exec exit gc getattr globals hasattr help id importlib license locals"
    " methodcaller os quit setattr super type vars sys".split())


def files():
    return sorted(path for path in PACKAGE.rglob("*") if "__pycache__" not in path.parts and path.is_file())


def trees():
    return [(path, ast.parse(path.read_text(encoding="utf-8"))) for path in files()]


def bound_names(tree):
    for node in ast.walk(tree):
        if isinstance(node, ast.Name) and isinstance(node.ctx, ast.Store):
            yield node.id
        elif isinstance(node, ast.arg):
            yield node.arg
        elif isinstance(node, (ast.FunctionDef, ast.ClassDef)) and node.name != "__init__":
            yield node.name


class Language(unittest.TestCase):
    def test_files(self):
        self.assertIn(PACKAGE / "__init__.py", files())
        for path in files():
            self.assertRegex(path.name, r"\A([a-z][a-z0-9_]*|__init__)\.py\Z")
            self.assertTrue(path.name == "__init__.py" or not hasattr(builtins, path.stem), path)

    def test_signs_and_size(self):
        for path in files():
            text = path.read_text(encoding="utf-8")
            self.assertRegex(text, r"\A[ -~\n]*\Z")
            self.assertLessEqual(text.count("\n"), 400)
            for line in text.split("\n"):
                self.assertLessEqual(len(line), 120)
                self.assertIsNone(NOWHERE.search(line), line)

    def test_functions(self):
        for path, tree in trees():
            for node in ast.walk(tree):
                if isinstance(node, ast.FunctionDef):
                    self.assertLessEqual(node.end_lineno - node.lineno + 1, 40, node.name)
                    self.assertEqual(node.decorator_list, [])
                    self.assertIsNone(node.args.vararg or node.args.kwarg)
                    self.assertEqual(node.args.kwonlyargs + node.args.posonlyargs, [])

    def test_statements_and_expressions(self):
        for path, tree in trees():
            for node in ast.walk(tree):
                self.assertIn(type(node).__name__, NODES, (path.name, getattr(node, "lineno", 0)))
                if isinstance(node, ast.Assign):
                    self.assertEqual(len(node.targets), 1)
                if isinstance(node, ast.Constant):
                    self.assertIn(type(node.value), (int, str, bool, type(None)))
                if isinstance(node, (ast.For, ast.While)):
                    self.assertEqual(node.orelse, [])
                if isinstance(node, ast.ListComp):
                    self.assertEqual(len(node.generators), 1)
                    self.assertLessEqual(len(node.generators[0].ifs), 1)

    def test_top_of_a_module(self):
        for path, tree in trees():
            self.assertIsNotNone(ast.get_docstring(tree), path)
            for node in tree.body[1:]:
                self.assertIsInstance(node, (ast.ImportFrom, ast.FunctionDef, ast.ClassDef, ast.Assign))
            tops = [node.targets[0].id for node in tree.body if isinstance(node, ast.Assign)]
            tops.extend(node.name for node in tree.body if isinstance(node, (ast.FunctionDef, ast.ClassDef)))
            self.assertEqual(len(tops), len(set(tops)))

    def test_imports(self):
        for path, tree in trees():
            for node in ast.walk(tree):
                if isinstance(node, ast.ImportFrom):
                    self.assertEqual(node.level, 0)
                    self.assertTrue(node.module.startswith("cutorders."))
                    self.assertNotIn("*", [name.name for name in node.names])

    def test_bound_names(self):
        for path, tree in trees():
            imported = [name.name for node in ast.walk(tree) if isinstance(node, ast.ImportFrom) for name in node.names]
            for name in bound_names(tree):
                self.assertRegex(name, r"\A[A-Za-z][A-Za-z0-9_]*\Z")
                self.assertFalse(hasattr(builtins, name), name)
                self.assertNotIn(name, NOT_USED)
                self.assertNotIn(name, imported)

    def test_names_that_are_read(self):
        for path, tree in trees():
            own = set(bound_names(tree))
            for node in ast.walk(tree):
                if isinstance(node, ast.ImportFrom):
                    own.update(name.name for name in node.names)
            for node in ast.walk(tree):
                if isinstance(node, ast.Name) and isinstance(node.ctx, ast.Load):
                    self.assertIn(node.id, own | OWN_NAMES, (path.name, node.lineno))

    def test_attributes(self):
        for path, tree in trees():
            kept = {node.attr for node in ast.walk(tree)
                    if isinstance(node, ast.Attribute) and isinstance(node.ctx, ast.Store)}
            for node in ast.walk(tree):
                if isinstance(node, ast.Attribute):
                    self.assertIn(node.attr, kept | OWN_METHODS, (path.name, node.lineno))
                    self.assertNotIn(node.attr, NOT_USED)

    def test_tops_hold_nothing_that_changes(self):
        for path, tree in trees():
            for top in tree.body:
                if isinstance(top, ast.Assign):
                    for node in ast.walk(top.value):
                        self.assertNotIsInstance(node, (ast.List, ast.Dict, ast.Call), (path.name, top.lineno))

    def test_imports_go_one_way(self):
        drawn = {path.stem: [node.module.split(".")[1] for node in tree.body if isinstance(node, ast.ImportFrom)]
                 for path, tree in trees()}
        self.assertEqual(drawn, {"__init__": [], "cable": ["plans", "plans"], "plans": []})

    def test_keywords(self):
        for path, tree in trees():
            for node in ast.walk(tree):
                if isinstance(node, ast.Call) and node.keywords:
                    self.assertIsInstance(node.func, ast.Name, (path.name, node.lineno))
                    for keyword in node.keywords:
                        self.assertIn(keyword.arg, KEYWORDS.get(node.func.id, []), (path.name, node.lineno))

    def test_walked_at_once(self):
        for path, tree in trees():
            walked = [node.iter for node in ast.walk(tree) if isinstance(node, (ast.For, ast.comprehension))]
            for node in ast.walk(tree):
                if isinstance(node, ast.Call) and isinstance(node.func, ast.Name) and node.func.id in WALKED_AT_ONCE:
                    self.assertIn(node, walked, (path.name, node.lineno))

    def test_what_is_called_stands_there(self):
        # Python's own functions and methods are called, never handed on.
        for path, tree in trees():
            called = [node.func for node in ast.walk(tree) if isinstance(node, ast.Call)]
            for node in ast.walk(tree):
                if isinstance(node, ast.Name) and node.id in OWN_NAMES or (
                        isinstance(node, ast.Attribute) and node.attr in OWN_METHODS):
                    self.assertIn(node, called, (path.name, node.lineno))

    def test_classes(self):
        for path, tree in trees():
            for node in ast.walk(tree):
                if isinstance(node, ast.ClassDef):
                    self.assertIn(node, tree.body)
                    self.assertEqual(node.bases + node.keywords + node.decorator_list, [])
                    self.assertEqual([part.name for part in node.body], ["__init__"])
                    self.assertEqual([part for part in ast.walk(node) if isinstance(part, ast.Return)], [])


if __name__ == "__main__":
    unittest.main()
