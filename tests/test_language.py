"""The package's files keep to the part of Python that the program is written in."""

import ast
import pathlib
import re
import unittest

PACKAGE = pathlib.Path(__file__).resolve().parent.parent / "lockedgoals"

OWN_NAMES = """len range enumerate zip min max sum abs sorted reversed int str bool list tuple dict set frozenset
isinstance ord repr any all divmod Exception ValueError TypeError KeyError IndexError LookupError
ZeroDivisionError ArithmeticError OverflowError RuntimeError NotImplementedError AttributeError
StopIteration""".split()

METHODS = """append clear copy count endswith extend find get index insert isalnum isalpha isdigit islower isspace
isupper items join keys ljust lower lstrip partition pop remove replace reverse rfind rjust rpartition
rsplit rstrip setdefault split splitlines startswith strip update upper values zfill bit_length""".split()

WORDS_LEFT_OUT = re.compile(
    r"\b(type|typing|typing_extensions|enum|Enum|IntEnum|StrEnum|Flag|IntFlag|Generic|Protocol|ABC|ABCMeta|namedtuple"
    r"|NamedTuple|TypedDict|TYPE_CHECKING|abstractmethod)\b|dataclass|overload|contextmanager")

NODES = """Module Import ImportFrom alias FunctionDef ClassDef arguments arg Expr Assign AugAssign If While For Return
Break Continue Pass Raise Try ExceptHandler Name Load Store Constant List Tuple Dict BinOp UnaryOp BoolOp Compare
IfExp Call Attribute Subscript Slice ListComp comprehension Lambda Add Sub Mult FloorDiv Mod Pow BitAnd BitOr BitXor
LShift RShift USub Not And Or Eq NotEq Lt LtE Gt GtE In NotIn Is IsNot keyword JoinedStr FormattedValue""".split()


def trees():
    for path in sorted(PACKAGE.rglob("*.py")):
        yield path, ast.parse(path.read_text(encoding="utf-8"))


def bound_at_top(tree):
    names = []
    for node in tree.body:
        if isinstance(node, (ast.FunctionDef, ast.ClassDef)):
            names.append(node.name)
        elif isinstance(node, ast.Assign):
            names.extend(target.id for target in node.targets)
        elif isinstance(node, ast.ImportFrom):
            names.extend(alias.name for alias in node.names)
    return names


class Files(unittest.TestCase):
    def test_only_plain_files_lie_in_the_package(self):
        for path in PACKAGE.rglob("*"):
            if "__pycache__" not in path.parts:
                self.assertRegex(path.name, r"^(__init__|[a-z][a-z0-9]*(_[a-z0-9]+)*)\.py$")
        self.assertTrue((PACKAGE / "__init__.py").exists())

    def test_signs_words_and_lengths(self):
        for path, _ in trees():
            text = path.read_bytes()
            lines = text.decode("ascii").split("\n")
            with self.subTest(file=path.name):
                self.assertRegex(text.decode("ascii"), r"\A[ -~\n]*\Z")
                self.assertLess(len(lines), 400)
                self.assertLessEqual(max(len(line) for line in lines), 120)
                self.assertIsNone(WORDS_LEFT_OUT.search(text.decode("ascii")))

    def test_every_file_and_function_has_a_docstring(self):
        for path, tree in trees():
            for node in ast.walk(tree):
                if isinstance(node, (ast.Module, ast.FunctionDef, ast.ClassDef)):
                    if getattr(node, "name", "") != "__init__":
                        self.assertTrue(ast.get_docstring(node), (path.name, getattr(node, "name", "")))


class Statements(unittest.TestCase):
    def test_only_the_kinds_that_are_allowed(self):
        for path, tree in trees():
            for node in ast.walk(tree):
                with self.subTest(file=path.name, line=getattr(node, "lineno", 0)):
                    self.assertIn(type(node).__name__, NODES)
                    if isinstance(node, ast.Assign):
                        self.assertEqual(len(node.targets), 1)
                    if isinstance(node, (ast.For, ast.While)):
                        self.assertEqual(node.orelse, [])
                    if isinstance(node, ast.Constant):
                        self.assertIn(type(node.value), (int, str, bool, type(None)))
                    if isinstance(node, (ast.FunctionDef, ast.ClassDef)):
                        self.assertEqual(node.decorator_list, [])

    def test_functions_are_short_and_plain(self):
        for path, tree in trees():
            for node in ast.walk(tree):
                if isinstance(node, ast.FunctionDef):
                    with self.subTest(file=path.name, function=node.name):
                        self.assertLessEqual(node.end_lineno - node.lineno + 1, 40)
                        self.assertIsNone(node.args.vararg or node.args.kwarg)
                        self.assertEqual(node.args.kwonlyargs + node.args.posonlyargs, [])

    def test_imports_are_the_packages_own_and_never_run_in_a_ring(self):
        drawn = {}
        for path, tree in trees():
            drawn[path.stem] = []
            for node in ast.walk(tree):
                self.assertNotIsInstance(node, ast.Import)
                if isinstance(node, ast.ImportFrom):
                    package, name = node.module.split(".")
                    self.assertEqual((package, node.level), ("lockedgoals", 0))
                    drawn[path.stem].append(name)
                    source = ast.parse((PACKAGE / (name + ".py")).read_text())
                    defined = [part.name for part in source.body if isinstance(part, (ast.FunctionDef, ast.ClassDef))]
                    for alias in node.names:
                        self.assertIn(alias.name, defined)
        while drawn:
            free = [name for name in drawn if not any(other in drawn for other in drawn[name])]
            self.assertTrue(free, drawn)
            for name in free:
                del drawn[name]


class Names(unittest.TestCase):
    def test_each_name_at_the_top_is_bound_once(self):
        for path, tree in trees():
            names = bound_at_top(tree)
            self.assertEqual(sorted(set(names)), sorted(names), path.name)

    def test_names_are_plain_and_not_pythons_own(self):
        pythons = set(dir(__builtins__) if not isinstance(__builtins__, dict) else __builtins__)
        for path, tree in trees():
            for node in ast.walk(tree):
                name = ""
                if isinstance(node, ast.Name) and isinstance(node.ctx, ast.Store):
                    name = node.id
                elif isinstance(node, (ast.FunctionDef, ast.ClassDef)):
                    name = node.name
                elif isinstance(node, ast.arg):
                    name = node.arg
                if name not in ("", "__init__"):
                    with self.subTest(file=path.name, name=name):
                        self.assertRegex(name, r"^[A-Za-z][A-Za-z0-9_]*$")
                        self.assertNotIn(name, pythons)

    def test_only_the_names_of_pythons_own_that_are_allowed(self):
        pythons = set(dir(__builtins__) if not isinstance(__builtins__, dict) else __builtins__)
        for path, tree in trees():
            for node in ast.walk(tree):
                if isinstance(node, ast.Name) and node.id in pythons:
                    self.assertIn(node.id, OWN_NAMES, path.name)

    def test_only_the_methods_that_are_allowed(self):
        for path, tree in trees():
            for node in ast.walk(tree):
                if isinstance(node, ast.Call) and isinstance(node.func, ast.Attribute):
                    self.assertIn(node.func.attr, METHODS, path.name)

    def test_no_parameter_or_local_is_called_like_a_class_or_an_import(self):
        for path, tree in trees():
            top = set(bound_at_top(tree))
            for function in ast.walk(tree):
                if isinstance(function, ast.FunctionDef):
                    for node in ast.walk(function):
                        if isinstance(node, ast.arg):
                            self.assertNotIn(node.arg, top, path.name)
                        if isinstance(node, ast.Name) and isinstance(node.ctx, ast.Store):
                            self.assertNotIn(node.id, top, path.name)


if __name__ == "__main__":
    unittest.main()
