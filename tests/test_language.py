"""The package's files keep to the small part of Python that they are written in (those rules that can be seen)."""

import ast
import builtins
import pathlib
import re
import unittest

PACKAGE = pathlib.Path(__file__).resolve().parent.parent / "waletexts"

NODES = (
    "Module Expr Constant ImportFrom alias FunctionDef ClassDef arguments arg Lambda Return Assign AugAssign If While For "
    "Break Continue Pass Raise Try ExceptHandler Call Name Attribute Subscript Slice Tuple List Dict ListComp "
    "comprehension IfExp BoolOp And Or BinOp Add Sub Mult FloorDiv Mod Pow BitAnd BitOr BitXor LShift RShift UnaryOp Not "
    "USub Invert Compare Eq NotEq Lt LtE Gt GtE Is IsNot In NotIn JoinedStr FormattedValue Load Store"
).split()
BUILTINS = (
    "len range enumerate zip min max sum abs sorted reversed int str bool list tuple dict set frozenset isinstance ord "
    "repr any all divmod Exception ValueError TypeError KeyError IndexError LookupError ZeroDivisionError "
    "ArithmeticError OverflowError RuntimeError NotImplementedError StopIteration"
).split()
METHODS = (
    "append clear copy count endswith extend find get index insert isalnum isalpha isdigit islower isspace isupper items "
    "join keys ljust lower lstrip partition pop remove replace reverse rfind rjust rpartition rsplit rstrip setdefault "
    "split splitlines startswith strip update upper values zfill bit_length"
).split()
FORBIDDEN_WORDS = (
    "type typing typing_extensions enum Enum IntEnum StrEnum Flag IntFlag Generic Protocol ABC ABCMeta namedtuple "
    "NamedTuple TypedDict TYPE_CHECKING abstractmethod"
).split()
OF_PYTHONS_OWN = {attribute for kind in (str, int, list, dict, set, bytes, tuple) for attribute in vars(kind)}


def files():
    return sorted(path for path in PACKAGE.iterdir() if path.name != "__pycache__")


def nodes(*kinds):
    for path in files():
        for node in ast.walk(ast.parse(path.read_text())):
            if isinstance(node, kinds or ast.AST):
                yield f"{path.name}:{getattr(node, 'lineno', 0)}", node


class Language(unittest.TestCase):
    def test_files_and_signs(self):
        for path in files():
            self.assertRegex(path.name, r"^(__init__|[a-z][a-z0-9_]*)\.py$")
            text = path.read_bytes().decode("ascii")
            self.assertRegex(text, r"\A[ -~\n]*\Z")
            self.assertLessEqual(len(text.splitlines()), 400, path)
            self.assertLessEqual(max(map(len, text.splitlines())), 120, path)
            self.assertFalse(set(re.findall(r"\w+", text)) & set(FORBIDDEN_WORDS), path)
            self.assertFalse(re.search("dataclass|overload|contextmanager", text), path)

    def test_statements_and_expressions(self):
        for where, node in nodes():
            self.assertIn(type(node).__name__, NODES, where)

    def test_functions(self):
        for where, node in nodes(ast.FunctionDef):
            self.assertLessEqual(node.end_lineno - node.lineno + 1, 40, where)
            self.assertFalse(node.decorator_list or node.args.vararg or node.args.kwarg or node.args.kwonlyargs, where)

    def test_loops_and_assignments(self):
        for where, node in nodes(ast.For, ast.While, ast.Assign, ast.Try):
            self.assertFalse(getattr(node, "finalbody", []), where)
            self.assertLessEqual(len(getattr(node, "targets", [])), 1, where)
            self.assertFalse(isinstance(node, (ast.For, ast.While)) and node.orelse, where)

    def test_imports(self):
        modules = {path.stem for path in files()}
        for where, node in nodes(ast.ImportFrom):
            package, module = node.module.split(".")
            self.assertEqual((package, node.level, module in modules), ("waletexts", 0, True), where)
            top = ast.parse((PACKAGE / (module + ".py")).read_text()).body
            defined = {getattr(one, "name", None) for one in top}
            defined |= {one.targets[0].id for one in top if isinstance(one, ast.Assign)}
            self.assertLessEqual({alias.name for alias in node.names}, defined, where)

    def test_names(self):
        for where, node in nodes(ast.Name):
            self.assertRegex(node.id, r"^[A-Za-z][A-Za-z0-9_]*$", where)
            if hasattr(builtins, node.id):
                self.assertIn(node.id, BUILTINS, where)
                self.assertIsInstance(node.ctx, ast.Load, where)
        for where, node in nodes(ast.arg):
            self.assertFalse(hasattr(builtins, node.arg), where)

    def test_methods_and_values(self):
        methods = {one.name for where, node in nodes(ast.ClassDef) for one in node.body if hasattr(one, "name")}
        called = {node.func.attr for where, node in nodes(ast.Call) if isinstance(node.func, ast.Attribute)}
        stored = {node.attr for where, node in nodes(ast.Attribute) if isinstance(node.ctx, ast.Store)}
        self.assertLessEqual(called, methods | set(METHODS))
        self.assertFalse((methods - {"__init__"} | stored) & OF_PYTHONS_OWN)
        self.assertFalse(methods & stored)

    def test_is_stands_beside_none_true_and_false(self):
        for where, node in nodes(ast.Compare):
            for operator, right in zip(node.ops, node.comparators):
                if isinstance(operator, (ast.Is, ast.IsNot)):
                    self.assertIn(getattr(right, "value", 0), (None, True, False), where)

    def test_texts_and_numbers(self):
        for where, node in nodes(ast.Constant):
            self.assertIn(type(node.value), (int, str, bool, type(None)), where)
            self.assertNotIn("%", str(node.value), where)

    def test_lists_and_dicts_of_a_files_top_hold_plain_values(self):
        for path in files():
            for node in ast.parse(path.read_text()).body:
                self.assertIn(type(node).__name__, ("Expr", "ImportFrom", "FunctionDef", "ClassDef", "Assign"), path)
                if isinstance(node, ast.Assign):
                    within = [type(one).__name__ for one in ast.walk(node.value)]
                    self.assertLessEqual(within.count("List") + within.count("Dict"), 1, path)
                    self.assertLessEqual(set(within), {"Constant", "List", "Dict", "Tuple", "Name", "Load", "UnaryOp", "USub"})


if __name__ == "__main__":
    unittest.main()
