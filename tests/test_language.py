"""The part of the language rules that can be read off the package's files."""

import ast
import builtins
import pathlib
import re
import unittest

PACKAGE = pathlib.Path(__file__).resolve().parent.parent / "rightnames"
FILES = sorted(PACKAGE.rglob("*.py"))

BUILTINS_ALLOWED = set(
    "len range enumerate zip min max sum abs sorted reversed int str bool list tuple dict set frozenset isinstance ord"
    " repr any all divmod Exception ValueError TypeError KeyError IndexError LookupError ZeroDivisionError"
    " ArithmeticError OverflowError RuntimeError NotImplementedError AttributeError StopIteration".split()
)
METHODS_ALLOWED = set(
    "append clear copy count endswith extend find get index insert isalnum isalpha isdigit islower isspace isupper"
    " items join keys ljust lower lstrip partition pop remove replace reverse rfind rjust rpartition rsplit rstrip"
    " setdefault split splitlines startswith strip update upper values zfill bit_length".split()
)
NODES_REFUSED = (
    ast.With, ast.Delete, ast.Global, ast.Nonlocal, ast.Assert, ast.Yield, ast.YieldFrom, ast.Await, ast.Match,
    ast.AsyncFunctionDef, ast.AsyncFor, ast.AsyncWith, ast.SetComp, ast.DictComp, ast.GeneratorExp, ast.NamedExpr,
    ast.Starred, ast.Div, ast.AnnAssign, ast.Import,
)
WORDS_REFUSED = re.compile(
    r"\b(type|typing|typing_extensions|enum|Enum|IntEnum|StrEnum|Flag|IntFlag|Generic|Protocol|ABC|ABCMeta|namedtuple"
    r"|NamedTuple|TypedDict|TYPE_CHECKING|abstractmethod)\b|dataclass|overload|contextmanager"
)
DUNDERS_ALLOWED = {"__init__", "__eq__", "__repr__", "__str__", "__len__"}


def trees():
    return [(path, ast.parse(path.read_text(encoding="utf-8"))) for path in FILES]


def nodes(kinds):
    return [(path, node) for path, tree in trees() for node in ast.walk(tree) if isinstance(node, kinds)]


class Files(unittest.TestCase):
    def test_only_python_files_lie_in_the_package(self):
        self.assertIn(PACKAGE / "__init__.py", FILES)
        for path in PACKAGE.rglob("*"):
            if path.is_file() and "__pycache__" not in path.parts:
                self.assertRegex(path.name, r"^[a-z0-9_]+\.py$")
                self.assertNotIn(path.stem, dir(builtins))

    def test_size_and_signs(self):
        for path in FILES:
            text = path.read_text(encoding="utf-8")
            self.assertRegex(text, r"\A[ -~\n]*\Z", path)
            self.assertLess(len(text.splitlines()), 400, path)
            for line in text.splitlines():
                self.assertLessEqual(len(line), 120, path)

    def test_words_that_stand_nowhere(self):
        for path in FILES:
            self.assertIsNone(WORDS_REFUSED.search(path.read_text(encoding="utf-8")), path)


class Code(unittest.TestCase):
    def test_refused_forms(self):
        for path, node in nodes(NODES_REFUSED):
            self.fail(f"{path.name}:{node.lineno}: {ast.dump(node)[:60]}")

    def test_functions(self):
        for path, node in nodes(ast.FunctionDef):
            where = f"{path.name}:{node.lineno}"
            self.assertLessEqual(node.end_lineno - node.lineno + 1, 40, where)
            self.assertEqual(node.decorator_list, [], where)
            self.assertFalse(node.args.vararg or node.args.kwarg or node.args.kwonlyargs, where)

    def test_imports_are_the_packages_own(self):
        for path, node in nodes(ast.ImportFrom):
            self.assertEqual(node.level, 0, path)
            self.assertTrue(node.module.startswith("rightnames."), path)
            self.assertTrue(all(alias.name != "*" and alias.asname is None for alias in node.names), path)

    def test_one_target_and_no_else_behind_a_loop(self):
        for path, node in nodes(ast.Assign):
            self.assertEqual(len(node.targets), 1, f"{path.name}:{node.lineno}")
        for path, node in nodes((ast.For, ast.While)):
            self.assertEqual(node.orelse, [], f"{path.name}:{node.lineno}")

    def test_comprehensions(self):
        for path, node in nodes(ast.ListComp):
            self.assertEqual(len(node.generators), 1, f"{path.name}:{node.lineno}")
            self.assertLessEqual(len(node.generators[0].ifs), 1, f"{path.name}:{node.lineno}")

    def test_no_floats_or_bytes(self):
        for path, node in nodes(ast.Constant):
            self.assertNotIsInstance(node.value, (float, complex, bytes), f"{path.name}:{node.lineno}")

    def test_is_stands_beside_plain_values_alone(self):
        for path, node in nodes(ast.Compare):
            for sign, right in zip(node.ops, node.comparators):
                if isinstance(sign, (ast.Is, ast.IsNot)):
                    self.assertIn(getattr(right, "value", 0), (None, True, False), f"{path.name}:{node.lineno}")


class Names(unittest.TestCase):
    def test_pythons_own_names(self):
        for path, node in nodes(ast.Name):
            where = f"{path.name}:{node.lineno}: {node.id}"
            self.assertFalse(node.id.startswith("_"), where)
            if node.id in dir(builtins):
                self.assertIn(node.id, BUILTINS_ALLOWED, where)
                self.assertIsInstance(node.ctx, ast.Load, where)

    def test_names_of_functions_and_parameters(self):
        for path, node in nodes(ast.FunctionDef):
            if node.name not in DUNDERS_ALLOWED:
                self.assertFalse(node.name.startswith("_"), f"{path.name}:{node.lineno}")
        for path, node in nodes(ast.arg):
            self.assertNotIn(node.arg, dir(builtins), f"{path.name}:{node.lineno}")
            self.assertFalse(node.arg.startswith("_"), f"{path.name}:{node.lineno}")

    def test_no_local_is_called_like_an_import_or_a_class(self):
        for path, tree in trees():
            top = {node.name for node in tree.body if isinstance(node, ast.ClassDef)}
            for node in ast.walk(tree):
                if isinstance(node, ast.ImportFrom):
                    top.update(alias.name for alias in node.names)
            for node in ast.walk(tree):
                if isinstance(node, ast.Name) and isinstance(node.ctx, ast.Store):
                    self.assertNotIn(node.id, top, f"{path.name}:{node.lineno}")
                if isinstance(node, ast.arg):
                    self.assertNotIn(node.arg, top, f"{path.name}:{node.lineno}")

    def test_methods_are_own_or_allowed(self):
        own = {node.name for path, node in nodes(ast.FunctionDef)}
        for path, node in nodes(ast.Call):
            if isinstance(node.func, ast.Attribute):
                self.assertIn(node.func.attr, own | METHODS_ALLOWED, f"{path.name}:{node.lineno}")

    def test_no_name_is_a_method_and_a_value(self):
        methods = {
            part.name for path, node in nodes(ast.ClassDef) for part in node.body if isinstance(part, ast.FunctionDef)
        }
        stored = {node.attr for path, node in nodes(ast.Attribute) if isinstance(node.ctx, ast.Store)}
        self.assertEqual(methods & stored, set())

    def test_the_interface_stands_in_its_file_alone(self):
        holders = []
        for path, tree in trees():
            for node in tree.body:
                if isinstance(node, (ast.FunctionDef, ast.ClassDef)) and node.name == "answers":
                    holders.append((path.name, [argument.arg for argument in node.args.args]))
        self.assertEqual(holders, [("office.py", ["calls"])])


if __name__ == "__main__":
    unittest.main()
