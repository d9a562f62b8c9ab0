"""The rules of LANGUAGE.md that can be seen file by file in the package."""

import ast
import re
import unittest
from pathlib import Path

PACKAGE = Path(__file__).resolve().parent.parent / "testsfirst"

STATEMENTS = (
    ast.Module, ast.ImportFrom, ast.FunctionDef, ast.ClassDef, ast.Assign, ast.AugAssign, ast.If, ast.While,
    ast.For, ast.Return, ast.Break, ast.Continue, ast.Pass, ast.Raise, ast.Try, ast.ExceptHandler, ast.Expr,
)
EXPRESSIONS = (
    ast.Constant, ast.List, ast.Tuple, ast.Dict, ast.BinOp, ast.UnaryOp, ast.BoolOp, ast.Compare, ast.IfExp,
    ast.Call, ast.Attribute, ast.Subscript, ast.Slice, ast.ListComp, ast.comprehension, ast.Name, ast.keyword,
    ast.Lambda, ast.JoinedStr, ast.FormattedValue,
)
PARTS = (
    ast.arguments, ast.arg, ast.alias, ast.expr_context, ast.operator, ast.unaryop, ast.boolop, ast.cmpop,
)
FORBIDDEN_OPERATORS = (ast.Div, ast.Pow, ast.MatMult)
BUILT_IN = set((
    "len range enumerate zip min max sum abs sorted reversed int str bool list tuple dict set frozenset isinstance "
    "ord repr any all divmod Exception ValueError TypeError KeyError IndexError LookupError ZeroDivisionError "
    "ArithmeticError OverflowError RuntimeError NotImplementedError AttributeError StopIteration"
).split())
METHODS = set("append copy count extend get index insert items keys pop remove setdefault update values".split())
WORDS = re.compile(
    r"\b(type|typing|typing_extensions|enum|Enum|IntEnum|StrEnum|Flag|IntFlag|Generic|Protocol|ABC|ABCMeta|"
    r"namedtuple|NamedTuple|TypedDict|TYPE_CHECKING|abstractmethod)\b|dataclass|overload|contextmanager"
)


def sources():
    return {path: path.read_text(encoding="utf-8") for path in sorted(PACKAGE.glob("*.py"))}


def trees():
    return {path: ast.parse(text) for path, text in sources().items()}


def walk(kind):
    return [(path.name, node) for path, tree in trees().items() for node in ast.walk(tree) if isinstance(node, kind)]


def names_at_top(tree):
    names = [node.name for node in tree.body if isinstance(node, (ast.FunctionDef, ast.ClassDef))]
    return names + [target.id for node in tree.body if isinstance(node, ast.Assign) for target in node.targets]


class Files(unittest.TestCase):
    def test_only_files_with_plain_names_lie_in_the_package(self):
        lying = [path.name for path in PACKAGE.iterdir() if path.name != "__pycache__"]
        self.assertIn("__init__.py", lying)
        for name in lying:
            self.assertRegex(name, r"^[a-z0-9_]+\.py$")

    def test_sizes_and_signs(self):
        for path, text in sources().items():
            self.assertLessEqual(len(text.splitlines()), 400, path)
            self.assertRegex(text, r"\A[ -~\n]*\Z", path)
            for line in text.splitlines():
                self.assertLessEqual(len(line), 120, path)
        for name, node in walk(ast.FunctionDef):
            self.assertLessEqual(node.end_lineno - node.lineno + 1, 40, (name, node.name))

    def test_words_that_stand_nowhere(self):
        for path, text in sources().items():
            self.assertIsNone(WORDS.search(text), path)


class Forms(unittest.TestCase):
    def test_only_allowed_forms(self):
        for name, node in walk(ast.AST):
            self.assertIsInstance(node, STATEMENTS + EXPRESSIONS + PARTS, (name, ast.dump(node)))
            self.assertNotIsInstance(node, FORBIDDEN_OPERATORS, name)

    def test_values_are_plain(self):
        for name, node in walk(ast.Constant):
            self.assertIn(type(node.value), (int, str, bool, type(None)), name)

    def test_functions_are_plain(self):
        for name, node in walk(ast.FunctionDef):
            arguments = node.args
            extra = node.decorator_list + arguments.kwonlyargs + arguments.posonlyargs
            self.assertEqual((extra, arguments.vararg, arguments.kwarg), ([], None, None), (name, node.name))

    def test_imports_come_from_the_file_that_defines_the_name(self):
        defined = {path.stem: names_at_top(tree) for path, tree in trees().items()}
        for name, node in walk(ast.ImportFrom):
            package, _, module = node.module.partition(".")
            self.assertEqual((package, node.level), ("testsfirst", 0), name)
            for alias in node.names:
                self.assertIn(alias.name, defined[module], name)

    def test_a_name_is_bound_once_at_the_top(self):
        for path, tree in trees().items():
            names = names_at_top(tree)
            self.assertEqual(sorted(names), sorted(set(names)), path)

    def test_no_files_draw_from_one_another(self):
        drawn = {path.stem: set() for path in sources()}
        for name, node in walk(ast.ImportFrom):
            drawn[name.removesuffix(".py")].add(node.module.partition(".")[2])
        while drawn:
            ready = [name for name, modules in drawn.items() if not modules & set(drawn)]
            self.assertNotEqual(ready, [], drawn)
            for name in ready:
                del drawn[name]

    def test_names(self):
        for name, node in walk((ast.Name, ast.arg)):
            word = node.id if isinstance(node, ast.Name) else node.arg
            self.assertRegex(word, r"^[A-Za-z][A-Za-z0-9_]*$", name)

    def test_names_of_pythons_own_are_those_that_are_allowed(self):
        own = set(dir(__builtins__)) if not isinstance(__builtins__, dict) else set(__builtins__)
        for name, node in walk(ast.Name):
            if node.id in own:
                self.assertIn(node.id, BUILT_IN, name)
                self.assertIsInstance(node.ctx, ast.Load, (name, node.id))
        for name, node in walk(ast.arg):
            self.assertNotIn(node.arg, own, name)

    def test_methods_are_the_programs_own_or_allowed(self):
        written = {node.name for _, node in walk(ast.FunctionDef)}
        for name, node in walk(ast.Call):
            if isinstance(node.func, ast.Attribute):
                self.assertIn(node.func.attr, written | METHODS, name)

    def test_no_name_is_a_method_and_a_value(self):
        methods = {part.name for _, node in walk(ast.ClassDef) for part in node.body if isinstance(part, ast.FunctionDef)}
        values = {node.attr for _, node in walk(ast.Attribute) if isinstance(node.ctx, ast.Store)}
        self.assertEqual(methods & values, set())


if __name__ == "__main__":
    unittest.main()
