"""The package keeps to the small part of Python: those of its rules that a reading of the files can show."""

import ast
import builtins
import re
import unittest
from pathlib import Path

PACKAGE = Path(__file__).resolve().parent.parent / "haul"

NODES = """Module Expr Assign AugAssign If While For Return Break Continue Pass Raise Try ExceptHandler
    FunctionDef ClassDef ImportFrom alias arguments arg Lambda keyword
    Constant List Tuple Dict BinOp UnaryOp BoolOp Compare IfExp Call Attribute Subscript Slice ListComp
    comprehension JoinedStr FormattedValue Name Load Store
    Add Sub Mult FloorDiv Mod Pow BitAnd BitOr BitXor LShift RShift Invert USub UAdd Not And Or
    Eq NotEq Lt LtE Gt GtE In NotIn Is IsNot""".split()

OWN_NAMES = """len range enumerate zip min max sum abs sorted reversed int str bool list tuple dict set frozenset
    isinstance ord repr any all divmod Exception ValueError TypeError KeyError IndexError LookupError
    ZeroDivisionError ArithmeticError OverflowError RuntimeError NotImplementedError AttributeError
    StopIteration""".split()

METHODS = """append clear copy count endswith extend find get index insert isalnum isalpha isdigit islower isspace
    isupper items join keys ljust lower lstrip partition pop remove replace reverse rfind rjust rpartition rsplit
    rstrip setdefault split splitlines startswith strip update upper values zfill bit_length""".split()

WORDS = re.compile(r"\b(type|typing|typing_extensions|enum|Enum|IntEnum|StrEnum|Flag|IntFlag|Generic|Protocol|ABC|"
                   r"ABCMeta|namedtuple|NamedTuple|TypedDict|TYPE_CHECKING|abstractmethod)\b|"
                   r"dataclass|overload|contextmanager")

NAME = re.compile(r"[A-Za-z][A-Za-z0-9_]*\Z")


def files():
    return sorted(path for path in PACKAGE.rglob("*") if "__pycache__" not in path.parts)


def trees():
    return [(path, ast.parse(path.read_text("utf-8"))) for path in files()]


def defs(tree):
    return [node for node in ast.walk(tree) if isinstance(node, ast.FunctionDef)]


def bound_names(tree):
    names = []
    for node in ast.walk(tree):
        if isinstance(node, ast.Name) and isinstance(node.ctx, ast.Store):
            names.append(node.id)
        elif isinstance(node, ast.arg):
            names.append(node.arg)
        elif isinstance(node, (ast.FunctionDef, ast.ClassDef)):
            names.append(node.name)
    return names


class Language(unittest.TestCase):
    def test_files_of_plain_names(self):
        for path in files():
            self.assertRegex(path.name, r"\A([a-z][a-z0-9_]*|__init__)\.py\Z")
            self.assertNotIn(path.stem, dir(builtins))

    def test_signs_sizes_and_words(self):
        for path in files():
            text = path.read_text("utf-8")
            self.assertRegex(text, r"\A[\n -~]*\Z", path)
            self.assertLessEqual(len(text.split("\n")), 400, path)
            self.assertLessEqual(max(len(row) for row in text.split("\n")), 120, path)
            self.assertIsNone(WORDS.search(text), path)

    def test_short_functions_with_plain_parameters(self):
        for path, tree in trees():
            for function in defs(tree):
                self.assertLessEqual(function.end_lineno - function.lineno + 1, 40, function.name)
                given = function.args
                self.assertFalse(given.vararg or given.kwarg or given.kwonlyargs or function.decorator_list)

    def test_imports_of_the_package_alone(self):
        for path, tree in trees():
            for node in ast.walk(tree):
                if isinstance(node, ast.ImportFrom):
                    self.assertIn(node, tree.body)
                    self.assertEqual(node.level, 0)
                    self.assertTrue(node.module.startswith("haul."), node.module)

    def test_statements_and_expressions(self):
        for path, tree in trees():
            for node in ast.walk(tree):
                kind = node.__class__.__name__
                self.assertIn(kind, NODES, f"{path.name}:{getattr(node, 'lineno', 0)}")
                if isinstance(node, ast.Assign):
                    self.assertEqual(len(node.targets), 1)
                if isinstance(node, (ast.For, ast.While)):
                    self.assertEqual(node.orelse, [])
                if isinstance(node, ast.Constant):
                    self.assertIn(node.value.__class__, (int, str, bool, None.__class__))

    def test_names(self):
        for path, tree in trees():
            for name in bound_names(tree):
                self.assertTrue(NAME.match(name) or name == "__init__", name)
                self.assertNotIn(name, dir(builtins), path)
            for node in ast.walk(tree):
                if isinstance(node, ast.Name) and node.id in dir(builtins):
                    self.assertIn(node.id, OWN_NAMES, path)

    def test_a_name_of_a_file_is_bound_once(self):
        for path, tree in trees():
            names = [name for node in tree.body for name in bound_names(ast.Module([node], []))
                     if not isinstance(node, (ast.FunctionDef, ast.ClassDef))]
            names += [node.name for node in tree.body if isinstance(node, (ast.FunctionDef, ast.ClassDef))]
            self.assertEqual(len(names), len(set(names)), path)

    def test_the_top_of_a_file_holds_plain_values_and_its_own_functions(self):
        for path, tree in trees():
            functions = [node.name for node in tree.body if isinstance(node, ast.FunctionDef)]
            for node in tree.body:
                if isinstance(node, ast.Assign):
                    for part in ast.walk(node.value):
                        kinds = (ast.Tuple, ast.Constant, ast.UnaryOp, ast.USub, ast.Name, ast.Load)
                        self.assertIsInstance(part, kinds, path)
                        self.assertTrue(not isinstance(part, ast.Name) or part.id in functions, path)
                else:
                    self.assertIsInstance(node, (ast.Expr, ast.ImportFrom, ast.FunctionDef, ast.ClassDef), path)

    def test_no_local_is_called_like_what_stands_at_the_top(self):
        for path, tree in trees():
            top = [alias.asname or alias.name for node in tree.body if isinstance(node, ast.ImportFrom)
                   for alias in node.names]
            top += [node.name for node in tree.body if isinstance(node, (ast.FunctionDef, ast.ClassDef))]
            for function in defs(tree):
                for name in bound_names(ast.Module(function.body, [])) + [arg.arg for arg in function.args.args]:
                    self.assertNotIn(name, top, (path, function.name))

    def test_keywords(self):
        for path, tree in trees():
            for node in ast.walk(tree):
                if isinstance(node, ast.Call) and node.keywords:
                    self.assertIn(node.func.id, ("min", "max", "sorted"), path)
                    self.assertLessEqual({keyword.arg for keyword in node.keywords}, {"key", "default"}, path)

    def test_methods(self):
        own = [function.name for path, tree in trees() for node in ast.walk(tree)
               if isinstance(node, ast.ClassDef) for function in defs(node)]
        for path, tree in trees():
            for node in ast.walk(tree):
                if isinstance(node, ast.Call) and isinstance(node.func, ast.Attribute):
                    self.assertIn(node.func.attr, METHODS + own, path)


if __name__ == "__main__":
    unittest.main()
