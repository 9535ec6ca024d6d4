"""The package keeps to the small part of Python that is agreed on, as far as a walk over its files can see."""

import ast
import builtins
import pathlib
import re
import unittest

PACKAGE = pathlib.Path(__file__).resolve().parent.parent / "alikestates"
FILES = sorted(PACKAGE.rglob("*.py"))

ALLOWED = tuple(getattr(ast, name) for name in (
    "Module Import ImportFrom alias FunctionDef Lambda arguments arg ClassDef Assign AugAssign If While For Return "
    "Break Continue Pass Raise Try ExceptHandler Expr Constant Name Attribute Subscript Slice Call keyword List Tuple "
    "Dict Set ListComp comprehension BinOp UnaryOp BoolOp Compare IfExp JoinedStr FormattedValue operator unaryop "
    "boolop cmpop expr_context").split())

PLAIN = (ast.Constant, ast.Tuple, ast.List, ast.Dict, ast.Name, ast.expr_context)

BUILTINS = (
    "len range enumerate zip min max sum abs sorted reversed int str bool list tuple dict set frozenset isinstance "
    "ord repr any all divmod Exception ValueError TypeError KeyError IndexError LookupError ZeroDivisionError "
    "ArithmeticError OverflowError RuntimeError NotImplementedError AttributeError StopIteration").split()

METHODS = (
    "append clear copy count endswith extend find get index insert isalnum isalpha isdigit islower isspace isupper "
    "items join keys ljust lower lstrip partition pop remove replace reverse rfind rjust rpartition rsplit rstrip "
    "setdefault split splitlines startswith strip update upper values zfill bit_length").split()

UNUSED_WORDS = re.compile(
    r"\b(type|typing|typing_extensions|enum|Enum|IntEnum|StrEnum|Flag|IntFlag|Generic|Protocol|ABC|ABCMeta|namedtuple"
    r"|NamedTuple|TypedDict|TYPE_CHECKING|abstractmethod)\b|dataclass|overload|contextmanager")


def tree_of(path):
    return ast.parse(path.read_text(encoding="ascii"))


def names_bound(tree):
    bound = set()
    for node in ast.walk(tree):
        if isinstance(node, (ast.FunctionDef, ast.ClassDef)):
            bound.add(node.name)
        elif isinstance(node, ast.arg):
            bound.add(node.arg)
        elif isinstance(node, ast.alias):
            bound.add(node.asname or node.name)
        elif isinstance(node, ast.Name) and isinstance(node.ctx, ast.Store):
            bound.add(node.id)
        elif isinstance(node, ast.ExceptHandler) and node.name:
            bound.add(node.name)
    return bound


def own_classes():
    return [node for path in FILES for node in tree_of(path).body if isinstance(node, ast.ClassDef)]


def own_methods():
    return {part.name for node in own_classes() for part in node.body if isinstance(part, ast.FunctionDef)}


def own_values():
    stored = [node for path in FILES for node in ast.walk(tree_of(path))
              if isinstance(node, ast.Attribute) and isinstance(node.ctx, ast.Store)]
    return {node.attr for node in stored}


class Form(unittest.TestCase):
    def test_the_files_of_the_package(self):
        self.assertIn(PACKAGE / "__init__.py", FILES)
        for path in PACKAGE.rglob("*"):
            if path.name != "__pycache__" and path.parent.name != "__pycache__":
                self.assertRegex(path.name, r"^([a-z][a-z0-9_]*|__init__|__main__)\.py$")

    def test_sizes_and_signs(self):
        for path in FILES:
            text = path.read_text(encoding="ascii")
            lines = text.splitlines()
            self.assertLess(len(lines), 400, path)
            for number, line in enumerate(lines, start=1):
                self.assertLessEqual(len(line), 120, (path, number))
                self.assertRegex(line, r"^[ -~]*$", (path, number))
                self.assertIsNone(UNUSED_WORDS.search(line), (path, number))
            for node in ast.walk(tree_of(path)):
                if isinstance(node, ast.FunctionDef):
                    self.assertLessEqual(node.end_lineno - node.lineno + 1, 40, (path, node.name))

    def test_the_parts_of_the_language(self):
        for path in FILES:
            for node in ast.walk(tree_of(path)):
                self.assertIsInstance(node, ALLOWED, (path, getattr(node, "lineno", 0)))
                if isinstance(node, ast.FunctionDef):
                    self.assertEqual(node.decorator_list, [], (path, node.lineno))
                if isinstance(node, ast.Assign):
                    self.assertEqual(len(node.targets), 1, (path, node.lineno))
                if isinstance(node, (ast.For, ast.While)):
                    self.assertEqual(node.orelse, [], (path, node.lineno))

    def test_imports_are_the_package_s_own(self):
        for path in FILES:
            for node in ast.walk(tree_of(path)):
                self.assertNotIsInstance(node, ast.Import, path)
                if isinstance(node, ast.ImportFrom):
                    self.assertTrue(node.module.startswith("alikestates."), (path, node.lineno))
                    self.assertEqual(node.level, 0, (path, node.lineno))

    def test_the_top_of_a_file(self):
        for path in FILES:
            tree = tree_of(path)
            self.assertTrue(ast.get_docstring(tree), path)
            for node in tree.body[1:]:
                self.assertIsInstance(node, (ast.ImportFrom, ast.FunctionDef, ast.ClassDef, ast.Assign), path)
                if isinstance(node, ast.Assign):
                    for part in ast.walk(node.value):
                        self.assertIsInstance(part, PLAIN, (path, node.lineno))

    def test_names(self):
        for path in FILES:
            tree = tree_of(path)
            bound = names_bound(tree)
            for name in bound - {"__init__"}:
                self.assertRegex(name, r"^[A-Za-z][A-Za-z0-9_]*$", path)
                self.assertNotIn(name, dir(builtins), path)
            for node in ast.walk(tree):
                if isinstance(node, ast.Name):
                    self.assertTrue(node.id in bound or node.id in BUILTINS, (path, node.lineno, node.id))

    def test_methods_and_values(self):
        self.assertEqual(own_methods() & own_values(), set())
        for name in own_methods() | own_values():
            for kind in (str, int, list, tuple, dict, set, bytes):
                self.assertTrue(name == "__init__" or not hasattr(kind, name), name)
        for path in FILES:
            for node in ast.walk(tree_of(path)):
                if isinstance(node, ast.Call) and isinstance(node.func, ast.Attribute):
                    self.assertIn(node.func.attr, own_methods() | set(METHODS), (path, node.lineno))

    def test_errors(self):
        names = [node.name for node in own_classes() if node.bases]
        for path in FILES:
            for node in ast.walk(tree_of(path)):
                if isinstance(node, ast.Raise):
                    self.assertIn(node.exc.func.id, names, (path, node.lineno))
                if isinstance(node, ast.ExceptHandler):
                    self.assertIn(node.type.id, names, (path, node.lineno))

    def test_sets_stand_where_they_are_not_kept(self):
        for path in FILES:
            tree = tree_of(path)
            called = [node for node in ast.walk(tree) if isinstance(node, ast.Call) and isinstance(node.func, ast.Name)]
            within = [part for node in called if node.func.id in ("len", "sorted") for part in node.args]
            for node in called:
                self.assertTrue(node.func.id != "set" or node in within, (path, node.lineno))
            self.assertEqual([node for node in ast.walk(tree) if isinstance(node, ast.Set)], [], path)

    def test_numbers_and_texts(self):
        for path in FILES:
            for node in ast.walk(tree_of(path)):
                self.assertNotIsInstance(node, (ast.Div, ast.Pow), (path, getattr(node, "lineno", 0)))
                if isinstance(node, ast.Constant):
                    self.assertNotIsInstance(node.value, (float, bytes), (path, node.lineno))
                    self.assertFalse(isinstance(node.value, str) and "%" in node.value, (path, node.lineno))
                if isinstance(node, ast.FormattedValue):
                    self.assertIsInstance(node.value, ast.Name, (path, node.lineno))


if __name__ == "__main__":
    unittest.main()
