"""The part of the language rules that can be read off the package's files.

Where a rule allows more than the package needs, the narrower is asked here.
"""

import ast
import builtins
import pathlib
import re
import unittest

PACKAGE = pathlib.Path(__file__).resolve().parent.parent / "rightnames"
FILES = sorted(PACKAGE.rglob("*.py"))

BUILTINS_ALLOWED = set(
    "len range enumerate zip min max sum abs sorted reversed int str bool list tuple dict set frozenset isinstance ord"
    " repr any all divmod Exception ValueError TypeError KeyError IndexError LookupError ZeroDivisionError"
    " ArithmeticError OverflowError RuntimeError NotImplementedError AttributeError StopIteration".split()
)
METHODS_ALLOWED = set(
    "append clear copy count endswith extend find get index insert isalnum isalpha isdigit islower isspace isupper"
    " items join keys ljust lower lstrip partition pop remove replace reverse rfind rjust rpartition rsplit rstrip"
    " setdefault split splitlines startswith strip update upper values zfill bit_length".split()
)
NODES_ALLOWED = (
    ast.Module, ast.ImportFrom, ast.alias, ast.FunctionDef, ast.Lambda, ast.arguments, ast.arg, ast.ClassDef,
    ast.Assign, ast.AugAssign, ast.If, ast.While, ast.For, ast.Return, ast.Break, ast.Continue, ast.Pass, ast.Raise,
    ast.Expr, ast.Constant, ast.List, ast.Tuple, ast.Dict, ast.Name, ast.Attribute, ast.Subscript, ast.Slice, ast.Call,
    ast.keyword, ast.ListComp, ast.comprehension, ast.JoinedStr, ast.FormattedValue, ast.IfExp, ast.Compare, ast.cmpop,
    ast.BoolOp, ast.boolop, ast.UnaryOp, ast.unaryop, ast.BinOp, ast.Add, ast.Sub, ast.Mult, ast.FloorDiv, ast.Mod,
    ast.LShift, ast.RShift, ast.BitOr, ast.BitAnd, ast.BitXor, ast.expr_context,
)
WORDS_REFUSED = re.compile(
    r"\b(type|typing|typing_extensions|enum|Enum|IntEnum|StrEnum|Flag|IntFlag|Generic|Protocol|ABC|ABCMeta|namedtuple"
    r"|NamedTuple|TypedDict|TYPE_CHECKING|abstractmethod)\b|dataclass|overload|contextmanager"
)
NAMES_REFUSED = set(
    "register mro elements open input version_info with_traceback add_note attrgetter breakpoint builtins compile"
    " copyright credits delattr dir eval exec exit gc getattr globals hasattr help id importlib license locals"
    " methodcaller os quit setattr super type vars sys format format_map chr".split()
)
VALUES_ALLOWED = set("count index title find get join lower upper split strip copy add".split())
KEYWORDS_ALLOWED = {("sorted", "key"), ("min", "key"), ("max", "key"), ("min", "default"), ("max", "default")}
WALKED_AT_ONCE = set("zip enumerate reversed range items keys values".split())
WALKERS = set("list tuple dict sorted sum any all enumerate zip min max".split())


def trees():
    return [(path, ast.parse(path.read_text(encoding="utf-8"))) for path in FILES]


def nodes(kinds):
    return [(path, node) for path, tree in trees() for node in ast.walk(tree) if isinstance(node, kinds)]


def called(call):
    return call.func.attr if isinstance(call.func, ast.Attribute) else getattr(call.func, "id", "")


def names_defined(tree):
    defined = [node.name for node in tree.body if isinstance(node, (ast.FunctionDef, ast.ClassDef))]
    return defined + [node.targets[0].id for node in tree.body if isinstance(node, ast.Assign)]


class Files(unittest.TestCase):
    def test_only_python_files_lie_in_the_package(self):
        self.assertIn(PACKAGE / "__init__.py", FILES)
        for path in PACKAGE.rglob("*"):
            if path.is_file() and "__pycache__" not in path.parts:
                self.assertRegex(path.name, r"^[a-z0-9_]+\.py$")
                self.assertNotIn(path.stem, dir(builtins))

    def test_size_and_signs(self):
        for path in FILES:
            text = path.read_text(encoding="utf-8")
            self.assertRegex(text, r"\A[ -~\n]*\Z", path)
            self.assertLess(len(text.splitlines()), 400, path)
            for line in text.splitlines():
                self.assertLessEqual(len(line), 120, path)

    def test_words_that_stand_nowhere(self):
        for path in FILES:
            self.assertIsNone(WORDS_REFUSED.search(path.read_text(encoding="utf-8")), path)


class Code(unittest.TestCase):
    def test_only_allowed_forms(self):
        for path, node in nodes(ast.AST):
            self.assertIsInstance(node, NODES_ALLOWED, path)

    def test_functions(self):
        for path, node in nodes(ast.FunctionDef):
            where = f"{path.name}:{node.lineno}"
            self.assertLessEqual(node.end_lineno - node.lineno + 1, 40, where)
            self.assertEqual(node.decorator_list, [], where)
            self.assertFalse(node.args.vararg or node.args.kwarg or node.args.kwonlyargs, where)
            self.assertEqual(node.args.posonlyargs + node.args.defaults, [], where)
            self.assertEqual([part.annotation for part in node.args.args if part.annotation], [], where)
            self.assertIsNone(node.returns, where)

    def test_imports_are_the_packages_own(self):
        for path, node in nodes(ast.ImportFrom):
            self.assertEqual(node.level, 0, path)
            self.assertTrue(node.module.startswith("rightnames."), path)
            self.assertTrue(all(alias.name != "*" and alias.asname is None for alias in node.names), path)

    def test_no_two_files_draw_from_one_another(self):
        drawn = {
            f"rightnames.{path.stem}": {node.module for node in ast.walk(tree) if isinstance(node, ast.ImportFrom)}
            for path, tree in trees()
        }
        while drawn:
            free = [name for name in drawn if not drawn[name] & set(drawn)]
            self.assertTrue(free, drawn)
            drawn = {name: drawn[name] for name in drawn if name not in free}

    def test_imports_are_from_the_file_that_defines_the_name(self):
        for path, node in nodes(ast.ImportFrom):
            tree = ast.parse((PACKAGE / f"{node.module.split('.')[1]}.py").read_text(encoding="utf-8"))
            self.assertLessEqual({alias.name for alias in node.names}, set(names_defined(tree)), path)

    def test_the_top_of_a_file(self):
        for path, tree in trees():
            self.assertIsNotNone(ast.get_docstring(tree), path)
            for node in tree.body[1:]:
                self.assertIsInstance(node, (ast.ImportFrom, ast.FunctionDef, ast.ClassDef, ast.Assign), path)
                if isinstance(node, ast.Assign):
                    self.assertIsInstance(node.value, ast.Constant, f"{path.name}:{node.lineno}")
            defined = names_defined(tree)
            self.assertEqual(sorted(set(defined)), sorted(defined), path)

    def test_classes(self):
        for path, node in nodes(ast.ClassDef):
            where = f"{path.name}:{node.lineno}"
            self.assertFalse(node.decorator_list or node.keywords or len(node.bases) > 1, where)
            for part in node.body:
                self.assertIsInstance(part, (ast.FunctionDef, ast.Pass), where)
            methods = [part.name for part in node.body if isinstance(part, ast.FunctionDef)]
            self.assertEqual(sorted(set(methods)), sorted(methods), where)

    def test_texts(self):
        for path, node in nodes(ast.Constant):
            if isinstance(node.value, str):
                self.assertNotIn("%", node.value, f"{path.name}:{node.lineno}")
        for path, node in nodes(ast.FormattedValue):
            self.assertIsInstance(node.value, ast.Name, f"{path.name}:{node.lineno}")
            self.assertIsNone(node.format_spec, f"{path.name}:{node.lineno}")

    def test_keywords(self):
        for path, node in nodes(ast.Call):
            for keyword in node.keywords:
                self.assertIn((called(node), keyword.arg), KEYWORDS_ALLOWED, f"{path.name}:{node.lineno}")

    def test_walked_at_once(self):
        walked = set()
        for path, tree in trees():
            for node in ast.walk(tree):
                if isinstance(node, (ast.For, ast.comprehension)):
                    walked.add((path, ast.dump(node.iter, include_attributes=True)))
                if isinstance(node, ast.Call) and called(node) in WALKERS and node.args:
                    walked.add((path, ast.dump(node.args[0], include_attributes=True)))
        for path, node in nodes(ast.Call):
            if called(node) in WALKED_AT_ONCE:
                where = f"{path.name}:{node.lineno}"
                self.assertIn((path, ast.dump(node, include_attributes=True)), walked, where)

    def test_a_set_stands_in_len_or_sorted_alone(self):
        inner = []
        for path, node in nodes(ast.Call):
            if called(node) in ("len", "sorted") and node.args:
                inner.append((path, ast.dump(node.args[0], include_attributes=True)))
        for path, node in nodes(ast.Call):
            if called(node) in ("set", "frozenset"):
                where = f"{path.name}:{node.lineno}"
                self.assertIn((path, ast.dump(node, include_attributes=True)), inner, where)

    def test_one_target_and_no_else_behind_a_loop(self):
        for path, node in nodes(ast.Assign):
            self.assertEqual(len(node.targets), 1, f"{path.name}:{node.lineno}")
        for path, node in nodes((ast.For, ast.While)):
            self.assertEqual(node.orelse, [], f"{path.name}:{node.lineno}")

    def test_comprehensions(self):
        for path, node in nodes(ast.ListComp):
            self.assertEqual(len(node.generators), 1, f"{path.name}:{node.lineno}")
            self.assertLessEqual(len(node.generators[0].ifs), 1, f"{path.name}:{node.lineno}")

    def test_no_floats_or_bytes(self):
        for path, node in nodes(ast.Constant):
            self.assertNotIsInstance(node.value, (float, complex, bytes), f"{path.name}:{node.lineno}")

    def test_is_stands_beside_plain_values_alone(self):
        for path, node in nodes(ast.Compare):
            for sign, right in zip(node.ops, node.comparators):
                if isinstance(sign, (ast.Is, ast.IsNot)):
                    self.assertIn(getattr(right, "value", 0), (None, True, False), f"{path.name}:{node.lineno}")


class Names(unittest.TestCase):
    def test_pythons_own_names(self):
        for path, node in nodes(ast.Name):
            where = f"{path.name}:{node.lineno}: {node.id}"
            self.assertFalse(node.id.startswith("_"), where)
            if node.id in dir(builtins):
                self.assertIn(node.id, BUILTINS_ALLOWED, where)
                self.assertIsInstance(node.ctx, ast.Load, where)

    def test_names_of_functions_and_parameters(self):
        for path, node in nodes(ast.FunctionDef):
            if node.name != "__init__":
                self.assertFalse(node.name.startswith("_"), f"{path.name}:{node.lineno}")
        for path, node in nodes(ast.arg):
            self.assertNotIn(node.arg, dir(builtins), f"{path.name}:{node.lineno}")
            self.assertFalse(node.arg.startswith("_"), f"{path.name}:{node.lineno}")

    def test_no_local_is_called_like_an_import_or_a_class(self):
        for path, tree in trees():
            top = {node.name for node in tree.body if isinstance(node, ast.ClassDef)}
            for node in ast.walk(tree):
                if isinstance(node, ast.ImportFrom):
                    top.update(alias.name for alias in node.names)
            for node in ast.walk(tree):
                if isinstance(node, ast.Name) and isinstance(node.ctx, ast.Store):
                    self.assertNotIn(node.id, top, f"{path.name}:{node.lineno}")
                if isinstance(node, ast.arg):
                    self.assertNotIn(node.arg, top, f"{path.name}:{node.lineno}")

    def test_methods_are_own_or_allowed(self):
        own = {node.name for path, node in nodes(ast.FunctionDef)}
        for path, node in nodes(ast.Call):
            if isinstance(node.func, ast.Attribute):
                self.assertIn(node.func.attr, own | METHODS_ALLOWED, f"{path.name}:{node.lineno}")

    def test_names_that_are_not_used(self):
        for path, node in nodes((ast.Name, ast.Attribute, ast.FunctionDef, ast.ClassDef, ast.arg, ast.alias)):
            for field in ("id", "attr", "name", "arg"):
                self.assertNotIn(getattr(node, field, ""), NAMES_REFUSED, path)

    def test_own_methods_and_values(self):
        taken = {name for kind in (str, int, list, tuple, dict, set, bytes) for name in dir(kind)}
        for path, node in nodes(ast.ClassDef):
            for part in node.body:
                if isinstance(part, ast.FunctionDef) and part.name != "__init__":
                    self.assertNotIn(part.name, taken, f"{path.name}:{part.lineno}")
        for path, node in nodes(ast.Attribute):
            if isinstance(node.ctx, ast.Store):
                self.assertNotIn(node.attr, taken - VALUES_ALLOWED, f"{path.name}:{node.lineno}")

    def test_no_name_is_a_method_and_a_value(self):
        methods = {
            part.name for path, node in nodes(ast.ClassDef) for part in node.body if isinstance(part, ast.FunctionDef)
        }
        stored = {node.attr for path, node in nodes(ast.Attribute) if isinstance(node.ctx, ast.Store)}
        self.assertEqual(methods & stored, set())

    def test_the_interface_stands_in_its_file_alone(self):
        holders = []
        for path, tree in trees():
            for node in tree.body:
                if isinstance(node, (ast.FunctionDef, ast.ClassDef)) and node.name == "answers":
                    holders.append((path.name, [argument.arg for argument in node.args.args]))
        self.assertEqual(holders, [("office.py", ["calls"])])


if __name__ == "__main__":
    unittest.main()
