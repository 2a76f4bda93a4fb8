"""The package keeps to LANGUAGE.md, as far as a look at its files can tell."""

import ast
import builtins
import pathlib
import re
import unittest

PACKAGE = pathlib.Path(__file__).resolve().parent.parent / "boxword"

STATEMENTS = (
    ast.FunctionDef, ast.ClassDef, ast.ImportFrom, ast.Assign, ast.AugAssign, ast.If, ast.While, ast.For,
    ast.Return, ast.Break, ast.Continue, ast.Pass, ast.Raise, ast.Try, ast.ExceptHandler, ast.Expr,
)
EXPRESSIONS = (
    ast.Constant, ast.Name, ast.Attribute, ast.Subscript, ast.Slice, ast.Call, ast.keyword, ast.List, ast.Tuple,
    ast.Dict, ast.BinOp, ast.UnaryOp, ast.BoolOp, ast.Compare, ast.IfExp, ast.ListComp, ast.comprehension,
    ast.Lambda, ast.JoinedStr, ast.FormattedValue, ast.arguments, ast.arg,
)
SIGNS = (ast.expr_context, ast.boolop, ast.operator, ast.unaryop, ast.cmpop)
OUT = (ast.Div, ast.MatMult)

PYTHONS_OWN = set(
    "len range enumerate zip min max sum abs sorted reversed int str bool list tuple dict set frozenset isinstance "
    "ord repr any all divmod Exception ValueError TypeError KeyError IndexError LookupError ZeroDivisionError "
    "ArithmeticError OverflowError RuntimeError NotImplementedError AttributeError StopIteration".split())
METHODS = set(
    "append clear copy count endswith extend find get index insert isalnum isalpha isdigit islower isspace isupper "
    "items join keys ljust lower lstrip partition pop remove replace reverse rfind rjust rpartition rsplit rstrip "
    "setdefault split splitlines startswith strip update upper values zfill bit_length".split())
WORDS_OUT = re.compile(
    r"\b(type|typing|typing_extensions|enum|Enum|IntEnum|StrEnum|Flag|IntFlag|Generic|Protocol|ABC|ABCMeta|"
    r"namedtuple|NamedTuple|TypedDict|TYPE_CHECKING|abstractmethod)\b|dataclass|overload|contextmanager")
NAMES_OUT = set("register mro elements open input version_info with_traceback add_note format format_map".split())
DUNDERS = {"__init__", "__eq__", "__repr__", "__str__", "__len__"}


def files():
    return sorted(PACKAGE.glob("*.py"))


def tree_of(path):
    return ast.parse(path.read_text(encoding="utf-8"))


def nodes():
    return [(path.name, node) for path in files() for node in ast.walk(tree_of(path))]


def bound_at_top(tree):
    names = []
    for node in tree.body:
        if isinstance(node, (ast.FunctionDef, ast.ClassDef)):
            names.append(node.name)
        if isinstance(node, ast.Assign):
            names += [target.id for target in node.targets]
        if isinstance(node, ast.ImportFrom):
            names += [some.asname or some.name for some in node.names]
    return names


def bound_within(tree):
    given = {node.arg for node in ast.walk(tree) if isinstance(node, ast.arg)}
    names = [node for node in ast.walk(tree) if isinstance(node, ast.Name)]
    return given | {node.id for node in names if isinstance(node.ctx, ast.Store)}


class TestFiles(unittest.TestCase):
    def test_nothing_else_lies_in_the_package(self):
        self.assertIn(PACKAGE / "__init__.py", files())
        for path in PACKAGE.iterdir():
            if path.name != "__pycache__":
                self.assertRegex(path.name, r"^(__init__|[a-z][a-z0-9_]*)\.py$")

    def test_signs_and_sizes(self):
        for path in files():
            rows = path.read_bytes().decode("ascii").split("\n")
            self.assertLessEqual(len(rows), 400, path.name)
            for row in rows:
                self.assertRegex(row, r"^[ -~]{0,120}\Z", path.name)
                self.assertNotRegex(row, WORDS_OUT, path.name)

    def test_functions_are_short(self):
        for name, node in nodes():
            if isinstance(node, ast.FunctionDef):
                self.assertLessEqual(node.end_lineno - node.lineno + 1, 40, f"{name}: {node.name}")


class TestTops(unittest.TestCase):
    def test_what_stands_there(self):
        for path in files():
            for at, node in enumerate(tree_of(path).body):
                docstring = at == 0 and isinstance(node, ast.Expr) and isinstance(node.value, ast.Constant)
                plain = isinstance(node, (ast.ImportFrom, ast.FunctionDef, ast.ClassDef, ast.Assign))
                self.assertTrue(docstring or plain, path.name)

    def test_each_name_once(self):
        for path in files():
            names = bound_at_top(tree_of(path))
            self.assertEqual(len(names), len(set(names)), path.name)

    def test_imports_are_from_the_file_that_defines_the_name(self):
        for name, node in nodes():
            if isinstance(node, ast.ImportFrom):
                self.assertEqual((node.level, node.module.split(".")[0]), (0, "boxword"), name)
                source = tree_of(PACKAGE / (node.module.split(".")[1] + ".py"))
                own = [some for some in source.body if not isinstance(some, ast.ImportFrom)]
                for some in node.names:
                    self.assertIn(some.name, bound_at_top(ast.Module(own, [])), name)

    def test_no_two_files_draw_from_one_another(self):
        drawn = {path.stem: {node.module.split(".")[1] for node in ast.walk(tree_of(path))
                             if isinstance(node, ast.ImportFrom)} for path in files()}
        while drawn:
            free = [name for name in drawn if not drawn[name] & set(drawn)]
            self.assertTrue(free, f"in a ring: {sorted(drawn)}")
            for name in free:
                drawn.pop(name)


class TestForms(unittest.TestCase):
    def test_nodes(self):
        for name, node in nodes():
            where = f"{name}:{getattr(node, 'lineno', 0)}: {type(node).__name__}"
            self.assertIsInstance(node, STATEMENTS + EXPRESSIONS + SIGNS + (ast.Module, ast.alias), where)
            self.assertNotIsInstance(node, OUT, where)
            if isinstance(node, (ast.For, ast.While)):
                self.assertEqual(node.orelse, [], where)
            if isinstance(node, ast.Try):
                self.assertEqual(node.finalbody, [], where)
            if isinstance(node, ast.Assign):
                self.assertEqual(len(node.targets), 1, where)
            if isinstance(node, ast.comprehension):
                self.assertLessEqual(len(node.ifs), 1, where)
            if isinstance(node, ast.ListComp):
                self.assertEqual(len(node.generators), 1, where)
            if isinstance(node, ast.Constant):
                self.assertIn(type(node.value), (int, str, bool, type(None)), where)
                self.assertNotIn(chr(37), str(node.value), where)
            if isinstance(node, ast.Pow):
                self.fail(where)

    def test_functions_and_classes_are_plain(self):
        for name, node in nodes():
            if isinstance(node, (ast.FunctionDef, ast.ClassDef)):
                self.assertEqual(node.decorator_list, [], f"{name}: {node.name}")
            if isinstance(node, ast.arguments):
                self.assertIsNone(node.vararg or node.kwarg, name)
                self.assertEqual(node.kwonlyargs, [], name)
            if isinstance(node, ast.ClassDef):
                self.assertLessEqual(len(node.bases), 1, name)
                for some in node.body:
                    self.assertIsInstance(some, (ast.FunctionDef, ast.Pass), name)

    def test_no_name_is_a_method_and_a_value(self):
        methods = {some.name for name, node in nodes() if isinstance(node, ast.ClassDef) for some in node.body
                   if isinstance(some, ast.FunctionDef)}
        values = {node.attr for name, node in nodes() if isinstance(node, ast.Attribute)
                  and isinstance(node.ctx, ast.Store)}
        self.assertEqual(methods & values, set())
        # The interface names these as methods of a watcher.
        self.assertEqual(values & {"told", "come", "kept"}, set())

    def test_is_stands_beside_none_and_truths_alone(self):
        for name, node in nodes():
            if isinstance(node, ast.Compare):
                for sign, right in zip(node.ops, node.comparators):
                    if isinstance(sign, (ast.Is, ast.IsNot)):
                        self.assertIn(getattr(right, "value", 0), (None, True, False), name)
                        self.assertIsInstance(right, ast.Constant, name)

    def test_pythons_value_error_is_taken_round_int_alone(self):
        for name, node in nodes():
            if isinstance(node, ast.Try):
                taken = [some.type.id for some in node.handlers]
                self.assertEqual(set(taken) & {"Exception", "TypeError"}, set(), name)
                if "ValueError" in taken:
                    calls = [some.func.id for some in ast.walk(node.body[0]) if isinstance(some, ast.Call)]
                    self.assertEqual((len(node.body), calls), (1, ["int"]), name)
            if isinstance(node, ast.Raise):
                self.assertIsInstance(node.exc, ast.Call, name)


class TestNames(unittest.TestCase):
    def test_no_name_that_is_not_known(self):
        for path in files():
            tree = tree_of(path)
            known = PYTHONS_OWN | set(bound_at_top(tree)) | bound_within(tree)
            known |= {node.name for node in ast.walk(tree) if isinstance(node, ast.FunctionDef)}
            known |= {node.name for node in ast.walk(tree) if isinstance(node, ast.ExceptHandler) and node.name}
            for node in ast.walk(tree):
                if isinstance(node, ast.Name):
                    self.assertIn(node.id, known, path.name)

    def test_names_are_plain(self):
        for path in files():
            tree = tree_of(path)
            defined = {node.name for node in ast.walk(tree) if isinstance(node, (ast.FunctionDef, ast.ClassDef))}
            used = {node.attr for node in ast.walk(tree) if isinstance(node, ast.Attribute)}
            for name in (defined | used | bound_within(tree)) - DUNDERS:
                self.assertRegex(name, r"^[A-Za-z][A-Za-z0-9_]*\Z", path.name)
                self.assertNotIn(name, NAMES_OUT, path.name)

    def test_no_local_is_called_like_an_import_a_class_or_pythons_own(self):
        for path in files():
            tree = tree_of(path)
            taken = set(dir(builtins)) | {node.name for node in tree.body if isinstance(node, ast.ClassDef)}
            for node in tree.body:
                if isinstance(node, ast.ImportFrom):
                    taken |= {some.name for some in node.names}
            self.assertEqual(sorted(bound_within(tree) & taken), [], path.name)

    def test_methods_are_known(self):
        own = {node.name for name, node in nodes() if isinstance(node, ast.FunctionDef)}
        for name, node in nodes():
            if isinstance(node, ast.Call) and isinstance(node.func, ast.Attribute):
                self.assertIn(node.func.attr, METHODS | own, name)


if __name__ == "__main__":
    unittest.main()
