"""What of ../shared/LANGUAGE.md can be seen by walking the package's files; the rest is for the reader."""

import ast
import builtins
import pathlib
import re
import unittest

PACKAGE = pathlib.Path(__file__).resolve().parent.parent / "waitworks"

PYTHONS_OWN = """
    len range enumerate zip min max sum abs sorted reversed int str bool list tuple dict set frozenset isinstance
    ord repr any all divmod Exception ValueError TypeError KeyError IndexError LookupError ZeroDivisionError
    ArithmeticError OverflowError RuntimeError NotImplementedError AttributeError StopIteration
""".split()

METHODS = """
    append clear copy count endswith extend find get index insert isalnum isalpha isdigit islower isspace isupper
    items join keys ljust lower lstrip partition pop remove replace reverse rfind rjust rpartition rsplit rstrip
    setdefault split splitlines startswith strip update upper values zfill bit_length __init__
""".split()

NODES = """
    Module ImportFrom alias FunctionDef ClassDef arguments arg Assign AugAssign If While For Return Break Continue
    Pass Raise Try ExceptHandler Expr Name Load Store Constant List Tuple Dict Set BinOp Add Sub Mult FloorDiv Mod
    Pow BitAnd BitOr BitXor LShift RShift UnaryOp USub Not Invert Compare Eq NotEq Lt LtE Gt GtE Is IsNot In NotIn
    BoolOp And Or IfExp Call keyword Attribute Subscript Slice ListComp comprehension JoinedStr FormattedValue Lambda
""".split()

BANNED_WORDS = """
    type typing typing_extensions enum Enum IntEnum StrEnum Flag IntFlag Generic Protocol ABC ABCMeta namedtuple
    NamedTuple TypedDict TYPE_CHECKING abstractmethod
""".split()

BANNED_NAMES = """
    register mro elements open input version_info with_traceback add_note attrgetter breakpoint builtins compile
    copyright credits delattr dir eval exec exit gc getattr globals hasattr help id importlib license locals
    methodcaller os quit setattr super type vars sys __name__
""".split()


def files():
    for path in sorted(PACKAGE.iterdir()):
        if path.name != "__pycache__":
            yield path, path.read_text(encoding="utf-8")


def trees():
    for path, text in files():
        yield path.name, ast.parse(text)


def nodes():
    for name, tree in trees():
        for node in ast.walk(tree):
            yield f"{name}:{getattr(node, 'lineno', 0)}", node


def bound_names(node):
    if isinstance(node, ast.Name) and isinstance(node.ctx, ast.Store):
        return [node.id]
    if isinstance(node, (ast.FunctionDef, ast.ClassDef)):
        return [node.name]
    return [node.arg] if isinstance(node, ast.arg) else []


def is_docstring(node):
    return isinstance(node, ast.Expr) and isinstance(node.value, ast.Constant) and isinstance(node.value.value, str)


class Language(unittest.TestCase):
    def test_files(self):
        for path, text in files():
            self.assertRegex(path.name, r"^[a-z][a-z0-9_]*\.py$|^__init__\.py$")
            self.assertRegex(text, r"^[ -~\n]*$", path.name)
            rows = text.split("\n")
            self.assertLess(len(rows), 400, path.name)
            self.assertLessEqual(max(len(row) for row in rows), 120, path.name)
            self.assertFalse(set(re.findall(r"\w+", text)) & set(BANNED_WORDS), path.name)
            self.assertNotRegex(text, "dataclass|overload|contextmanager", path.name)

    def test_top_of_a_module(self):
        for name, tree in trees():
            self.assertTrue(is_docstring(tree.body[0]), name)
            kinds = (ast.ImportFrom, ast.FunctionDef, ast.ClassDef, ast.Assign)
            self.assertTrue(all(isinstance(node, kinds) for node in tree.body[1:]), name)
            bound = [bound for node in tree.body for bound in bound_names(node)]
            bound += [target.id for node in tree.body if isinstance(node, ast.Assign) for target in node.targets]
            self.assertEqual(len(bound), len(set(bound)), name)

    def test_statements_and_expressions(self):
        for place, node in nodes():
            self.assertIn(node.__class__.__name__, NODES, place)
            if isinstance(node, ast.Constant):
                self.assertIn(node.value.__class__, (int, str, bool, type(None)), place)
            if isinstance(node, (ast.For, ast.While)):
                self.assertEqual(node.orelse, [], place)
            if isinstance(node, ast.Assign):
                self.assertEqual(len(node.targets), 1, place)
            if isinstance(node, ast.Expr):
                self.assertTrue(isinstance(node.value, ast.Call) or (is_docstring(node) and node.lineno == 1), place)
            if isinstance(node, ast.ListComp):
                self.assertTrue(len(node.generators) == 1 and len(node.generators[0].ifs) < 2, place)

    def test_imports_are_those_of_the_package(self):
        for place, node in nodes():
            if isinstance(node, ast.ImportFrom):
                self.assertTrue(node.level == 0 and node.module.startswith("waitworks."), place)
                self.assertTrue(all(name.name != "*" and name.asname is None for name in node.names), place)

    def test_functions_and_classes(self):
        for place, node in nodes():
            if isinstance(node, ast.FunctionDef):
                self.assertLess(node.end_lineno - node.lineno, 40, place)
                arguments = node.args
                self.assertFalse(arguments.vararg or arguments.kwarg or arguments.kwonlyargs, place)
                self.assertFalse(arguments.posonlyargs or node.decorator_list or node.returns, place)
            if isinstance(node, ast.ClassDef):
                self.assertTrue(all(isinstance(part, ast.FunctionDef) for part in node.body), place)
                self.assertTrue(len(node.bases) < 2 and not node.keywords and not node.decorator_list, place)

    def test_names(self):
        for place, node in nodes():
            for name in bound_names(node):
                if name != "__init__":
                    self.assertRegex(name, "^[A-Za-z][A-Za-z0-9_]*$", place)
                    self.assertFalse(hasattr(builtins, name), place)
                    self.assertNotIn(name, BANNED_NAMES, place)
            if isinstance(node, ast.Name) and hasattr(builtins, node.id):
                self.assertIn(node.id, PYTHONS_OWN, place)
            if isinstance(node, ast.Attribute):
                self.assertNotIn(node.attr, BANNED_NAMES, place)

    def test_methods(self):
        classes = [node for _, node in nodes() if isinstance(node, ast.ClassDef)]
        own = [part.name for node in classes for part in node.body if isinstance(part, ast.FunctionDef)]
        for place, node in nodes():
            if isinstance(node, ast.Call) and isinstance(node.func, ast.Attribute):
                self.assertIn(node.func.attr, METHODS + own, place)


if __name__ == "__main__":
    unittest.main()
