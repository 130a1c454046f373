"""The package's files keep to the part of Python that ../shared/LANGUAGE.md tells, as far as a walk of them can see."""

import ast
import builtins
import keyword
import pathlib
import re
import unittest

PACKAGE = pathlib.Path(__file__).resolve().parent.parent / "allfirst"
FILES = sorted(PACKAGE.rglob("*.py"))

NODES = """
    Module Expr FunctionDef arguments arg ClassDef Pass Assign AugAssign If While For Return Break Continue Raise Try
    ExceptHandler Import ImportFrom alias Constant Name Load Store Attribute Subscript Slice Call keyword List Tuple
    Dict Set ListComp comprehension Lambda IfExp BoolOp And Or UnaryOp Not USub Invert BinOp Add Sub Mult FloorDiv Mod
    Pow LShift RShift BitOr BitXor BitAnd Compare Eq NotEq Lt LtE Gt GtE Is IsNot In NotIn JoinedStr FormattedValue
""".split()
OWN_NAMES = """
    len range enumerate zip min max sum abs sorted reversed int str bool list tuple dict set frozenset isinstance ord
    repr any all divmod Exception ValueError TypeError KeyError IndexError LookupError ZeroDivisionError
    ArithmeticError OverflowError RuntimeError NotImplementedError AttributeError StopIteration
""".split()
METHODS = """
    append clear copy count endswith extend find get index insert isalnum isalpha isdigit islower isspace isupper items
    join keys ljust lower lstrip partition pop remove replace reverse rfind rjust rpartition rsplit rstrip setdefault
    split splitlines startswith strip update upper values zfill bit_length
""".split()
DUNDERS = "__init__ __eq__ __repr__ __str__ __len__".split()
WORDS = """
    type typing typing_extensions enum Enum IntEnum StrEnum Flag IntFlag Generic Protocol ABC ABCMeta namedtuple
    NamedTuple TypedDict TYPE_CHECKING abstractmethod
""".split()
WITHIN_WORDS = ["dataclass", "overload", "contextmanager"]


FORBIDDEN_STEMS = WORDS + dir(builtins) + ["test", "tests", "testing", "site", "conftest"]


def walked(path, kinds):
    return [node for node in ast.walk(ast.parse(path.read_text())) if isinstance(node, kinds)]


def called(node):
    return getattr(getattr(node, "func", None), "id", None)


def name_of(node):
    return getattr(node, "id", None) or getattr(node, "arg", None) or getattr(node, "name", None)


def bad_arguments(node):
    return node.args.vararg or node.args.kwarg or node.args.kwonlyargs or node.args.posonlyargs


def bad_name(node):
    name = name_of(node)
    given = not isinstance(node, ast.Name) or isinstance(node.ctx, ast.Store)
    plain = re.match(r"^[A-Za-z][A-Za-z0-9_]*$", name) or name in DUNDERS
    return not plain or given and (name in dir(builtins) or keyword.issoftkeyword(name))


def bad_is(node):
    sides = [node.left] + node.comparators
    beside = any(isinstance(side, ast.Constant) and side.value in (None, True, False) for side in sides)
    return any(isinstance(op, (ast.Is, ast.IsNot)) for op in node.ops) and not beside


def bad_value(node):
    if isinstance(node.value, str):
        return "%" in node.value
    return type(node.value) not in (int, bool, type(None))


def bad_statement(node):
    docstring = node.lineno == 1 and isinstance(node.value, ast.Constant)
    return not docstring and not isinstance(node.value, ast.Call)


def bad_class(node):
    plain = all(isinstance(part, (ast.FunctionDef, ast.Pass)) for part in node.body)
    return len(node.bases) > 1 or node.keywords or not plain


def bad_import(node):
    own = re.match(r"^allfirst\.([a-z_]+)$", node.module or "")
    return node.level > 0 or not own or not (PACKAGE / (own.group(1) + ".py")).exists()


def where_sets_may_stand(tree):
    for node in ast.walk(tree):
        if called(node) in ("sorted", "len") and not node.keywords or isinstance(node, ast.Compare):
            yield from ast.walk(node)


class Language(unittest.TestCase):
    def none(self, kinds, bad):
        for path in FILES:
            lines = [getattr(node, "lineno", 0) for node in walked(path, kinds) if bad(node)]
            self.assertEqual(lines, [], path.name)

    def test_the_package_holds_its_files_alone(self):
        self.assertIn(PACKAGE / "__init__.py", FILES)
        for path in PACKAGE.rglob("*"):
            if "__pycache__" not in path.parts:
                self.assertRegex(path.name, r"^([a-z][a-z0-9_]*|__init__|__main__)(\.py)?$")
                self.assertNotIn(path.stem, FORBIDDEN_STEMS)

    def test_signs_and_sizes(self):
        for path in FILES:
            text = path.read_text()
            self.assertTrue(re.match(r"\A[ -~\n]*\Z", text), path.name)
            self.assertLessEqual(len(text.splitlines()), 400, path.name)
            self.assertLessEqual(max(map(len, text.splitlines())), 120, path.name)
        self.none(ast.FunctionDef, lambda node: node.end_lineno - node.lineno >= 40)

    def test_words_that_stand_nowhere(self):
        for path in FILES:
            words = re.findall(r"\w+", path.read_text())
            bad = [word for word in words if word in WORDS or any(part in word for part in WITHIN_WORDS)]
            self.assertEqual(bad, [], path.name)

    def test_kinds_of_code(self):
        self.none(ast.AST, lambda node: type(node).__name__ not in NODES)

    def test_values(self):
        self.none(ast.Constant, bad_value)

    def test_only_docstrings_and_calls_stand_by_themselves(self):
        self.none(ast.Expr, bad_statement)

    def test_the_top_of_a_file(self):
        for path in FILES:
            for node in ast.parse(path.read_text()).body:
                self.assertIsInstance(node, (ast.Expr, ast.ImportFrom, ast.FunctionDef, ast.ClassDef, ast.Assign))

    def test_imports_are_the_package_s_own_and_turn_in_no_ring(self):
        self.none(ast.Import, lambda node: True)
        self.none(ast.ImportFrom, bad_import)
        drawn = {"allfirst." + path.stem: [node.module for node in walked(path, ast.ImportFrom)] for path in FILES}
        while drawn:
            ends = [name for name, others in drawn.items() if not any(other in drawn for other in others)]
            self.assertNotEqual(ends, [], "files that draw from one another")
            drawn = {name: others for name, others in drawn.items() if name not in ends}

    def test_functions_and_classes(self):
        self.none((ast.FunctionDef, ast.Lambda), bad_arguments)
        self.none((ast.FunctionDef, ast.ClassDef), lambda node: node.decorator_list)
        self.none(ast.ClassDef, bad_class)

    def test_names(self):
        self.none((ast.Name, ast.arg, ast.FunctionDef, ast.ClassDef), bad_name)
        self.none(ast.Name, lambda node: node.id in dir(builtins) and node.id not in OWN_NAMES)

    def test_methods(self):
        own = [node.name for path in FILES for node in walked(path, ast.FunctionDef)]
        self.none(ast.Call, lambda node: isinstance(node.func, ast.Attribute) and node.func.attr not in METHODS + own)

    def test_one_for_one_if_one_target_and_no_else_behind_a_loop(self):
        self.none(ast.ListComp, lambda node: len(node.generators) > 1 or len(node.generators[0].ifs) > 1)
        self.none(ast.Assign, lambda node: len(node.targets) > 1)
        self.none((ast.For, ast.While), lambda node: node.orelse)

    def test_f_strings_hold_plain_names(self):
        self.none(ast.FormattedValue, lambda node: not isinstance(node.value, ast.Name) or node.format_spec)

    def test_is_stands_beside_none_true_and_false(self):
        self.none(ast.Compare, bad_is)

    def test_sets_stand_within_sorted_or_len_or_a_comparison(self):
        for path in FILES:
            tree = ast.parse(path.read_text())
            made = [node for node in ast.walk(tree) if called(node) == "set"]
            may_stand = list(where_sets_may_stand(tree))
            self.assertEqual([node.lineno for node in made if node not in may_stand], [], path.name)


if __name__ == "__main__":
    unittest.main()
