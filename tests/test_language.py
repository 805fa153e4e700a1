"""The package keeps to its small part of Python, as far as can be seen from its text."""

import ast
import builtins
import os
import re
import unittest

PACKAGE = os.path.join(os.path.dirname(os.path.dirname(os.path.abspath(__file__))), "seenby")

ALLOWED_NODES = """
Module Expr Assign AugAssign If While For Return Break Continue Pass Raise Try ExceptHandler
FunctionDef ClassDef arguments arg Constant Name Attribute Subscript Slice Call List Tuple Dict
ListComp comprehension Lambda IfExp BoolOp And Or UnaryOp Not USub Invert BinOp Add Sub Mult
FloorDiv Mod Pow BitAnd BitOr BitXor LShift RShift Compare Eq NotEq Lt LtE Gt GtE In NotIn Is IsNot
Load Store ImportFrom alias JoinedStr FormattedValue keyword
""".split()

ALLOWED_BUILTINS = """
len range enumerate zip min max sum abs sorted reversed int str bool list tuple dict set isinstance
ord repr any all divmod ValueError KeyError IndexError LookupError ZeroDivisionError Exception
""".split()

ALLOWED_METHODS = """
append clear copy count endswith extend find get index insert items join keys pop remove replace
reverse setdefault split startswith strip update values bit_length
""".split()

FORBIDDEN_WORDS = """
type typing typing_extensions enum Enum IntEnum StrEnum Flag IntFlag Generic Protocol ABC ABCMeta
namedtuple NamedTuple TypedDict TYPE_CHECKING abstractmethod
""".split()

FORBIDDEN_NAMES = "register mro elements open input version_info with_traceback add_note".split()


def files():
    found = []
    for folder, folders, names in os.walk(PACKAGE):
        if "__pycache__" in folders:
            folders.remove("__pycache__")
        found += [os.path.join(folder, name) for name in sorted(names)]
    return found


def text(path):
    with open(path, encoding="utf-8") as file:
        return file.read()


def nodes(path):
    return list(ast.walk(ast.parse(text(path))))


def bound_in(path):
    """Every name that the file gives a meaning, as a name, a def or a value of an object."""
    names = set()
    for node in nodes(path):
        if isinstance(node, (ast.FunctionDef, ast.ClassDef)):
            names.add(node.name)
        elif isinstance(node, ast.arg):
            names.add(node.arg)
        elif isinstance(node, (ast.Name, ast.Attribute)) and isinstance(node.ctx, ast.Store):
            names.add(node.id if isinstance(node, ast.Name) else node.attr)
    return names


class Language(unittest.TestCase):

    def test_only_plain_files_lie_in_the_package(self):
        names = [os.path.relpath(path, PACKAGE) for path in files()]
        self.assertIn("__init__.py", names)
        self.assertIn("sheet.py", names)
        for name in names:
            self.assertRegex(name, r"^[a-z_][a-z0-9_]*\.py$")

    def test_signs_and_sizes(self):
        for path in files():
            lines = text(path).split("\n")
            self.assertLessEqual(len(lines), 400, path)
            self.assertRegex(text(path), r"\A[ -~\n]*\Z")
            self.assertLessEqual(max(len(line) for line in lines), 120, path)
            for node in nodes(path):
                if isinstance(node, ast.FunctionDef):
                    self.assertLessEqual(node.end_lineno - node.lineno + 1, 40, node.name)

    def test_only_the_allowed_parts_of_python(self):
        for path in files():
            for node in nodes(path):
                self.assertIn(node.__class__.__name__, ALLOWED_NODES, (path, getattr(node, "lineno", 0)))
                if isinstance(node, ast.Constant):
                    self.assertIsInstance(node.value, (int, str, bool, type(None)))
                if isinstance(node, ast.FunctionDef):
                    self.assertEqual(node.decorator_list, [])
                if isinstance(node, (ast.For, ast.While)):
                    self.assertEqual(node.orelse, [])

    def test_names_of_the_top_have_plain_values_once(self):
        for path in files():
            names = []
            for node in ast.parse(text(path)).body:
                if isinstance(node, ast.Assign):
                    self.assertEqual(len(node.targets), 1)
                    names.append(node.targets[0].id)
                    ast.literal_eval(node.value)
                elif not isinstance(node, (ast.FunctionDef, ast.ClassDef, ast.ImportFrom)):
                    self.assertIsInstance(node.value, ast.Constant)
            self.assertEqual(len(names), len(set(names)))

    def test_only_the_package_s_own_is_imported(self):
        for path in files():
            for node in nodes(path):
                if isinstance(node, ast.ImportFrom):
                    self.assertEqual(node.level, 0)
                    self.assertEqual(node.module.split(".")[0], "seenby")

    def test_names(self):
        for path in files():
            bound = bound_in(path)
            for name in bound - {"__init__"}:
                self.assertRegex(name, r"^[A-Za-z][A-Za-z0-9_]*$")
                self.assertNotIn(name, dir(builtins))
                self.assertNotIn(name, FORBIDDEN_NAMES)
            for node in nodes(path):
                if isinstance(node, ast.Name) and isinstance(node.ctx, ast.Load):
                    self.assertIn(node.id, bound | set(ALLOWED_BUILTINS))
                if isinstance(node, ast.Attribute):
                    self.assertIn(node.attr, bound | set(ALLOWED_METHODS))

    def test_words_that_stand_nowhere(self):
        for path in files():
            words = set(re.findall(r"[A-Za-z_][A-Za-z0-9_]*", text(path)))
            self.assertEqual(words & set(FORBIDDEN_WORDS), set())
            for part in ("dataclass", "overload", "contextmanager"):
                self.assertNotIn(part, text(path))


if __name__ == "__main__":
    unittest.main()
