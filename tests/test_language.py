"""The package keeps to the part of Python that it is written in: the rules that a walk over the code can see."""

import ast
import builtins
import pathlib
import re
import unittest

PACKAGE = pathlib.Path(__file__).resolve().parent.parent / "latticeseal"

OWN_NAMES_OF_PYTHON = set("""
    len range enumerate zip min max sum abs sorted reversed int str bool list tuple dict set frozenset isinstance
    ord repr any all divmod Exception ValueError TypeError KeyError IndexError LookupError ZeroDivisionError
    ArithmeticError OverflowError RuntimeError NotImplementedError AttributeError StopIteration
""".split())

METHODS = set("""
    append clear copy count endswith extend find get index insert isalnum isalpha isdigit islower isspace isupper
    items join keys ljust lower lstrip partition pop remove replace reverse rfind rjust rpartition rsplit rstrip
    setdefault split splitlines startswith strip update upper values zfill bit_length
""".split())

WORDS_THAT_STAND_NOWHERE = re.compile(
    r"\b(type|typing|typing_extensions|enum|Enum|IntEnum|StrEnum|Flag|IntFlag|Generic|Protocol|ABC|ABCMeta"
    r"|namedtuple|NamedTuple|TypedDict|TYPE_CHECKING|abstractmethod)\b|dataclass|overload|contextmanager"
)

FORMS_THAT_ARE_OUT = (
    ast.With, ast.Match, ast.Delete, ast.Global, ast.Nonlocal, ast.Assert, ast.Yield, ast.YieldFrom, ast.Await,
    ast.AsyncFor, ast.AsyncWith, ast.AsyncFunctionDef, ast.SetComp, ast.DictComp, ast.GeneratorExp, ast.NamedExpr,
    ast.Starred, ast.Div, ast.MatMult, ast.Import, ast.AnnAssign,
)


def files():
    return sorted(path for path in PACKAGE.rglob("*") if path.is_file() and "__pycache__" not in path.parts)


def nodes():
    for path in files():
        for node in ast.walk(ast.parse(path.read_text(encoding="utf-8"))):
            yield path.name, node


class Language(unittest.TestCase):
    def test_files(self):
        self.assertIn(PACKAGE / "desk.py", files())
        self.assertIn(PACKAGE / "__init__.py", files())
        for path in files():
            self.assertRegex(path.name, r"^([a-z][a-z0-9_]*|__init__)\.py$")

    def test_signs_and_sizes(self):
        for path in files():
            text = path.read_bytes().decode("ascii")
            self.assertRegex(text, r"^[\n -~]*$", path.name)
            self.assertIsNone(WORDS_THAT_STAND_NOWHERE.search(text), path.name)
            rows = text.splitlines()
            self.assertLessEqual(len(rows), 400, path.name)
            self.assertLessEqual(max(len(row) for row in rows), 120, path.name)

    def test_the_top_of_a_module(self):
        for path in files():
            bound = []
            body = ast.parse(path.read_text(encoding="utf-8")).body
            for node in body:
                place = (path.name, node.lineno)
                self.assertIsInstance(node, (ast.Expr, ast.ImportFrom, ast.FunctionDef, ast.Assign), place)
                if isinstance(node, ast.Expr):
                    self.assertIs(node, body[0], place)
                    self.assertIsInstance(ast.literal_eval(node.value), str, place)
                if isinstance(node, ast.Assign):
                    self.assert_plain(ast.literal_eval(node.value), place)
                    bound.append(node.targets[0].id)
                if isinstance(node, ast.FunctionDef):
                    bound.append(node.name)
            self.assertEqual(len(bound), len(set(bound)), path.name)

    def assert_plain(self, value, place):
        """A value that a module's top may have: within a list or a dict stand no others."""
        inner = list(value.values()) if isinstance(value, dict) else value if isinstance(value, (list, tuple)) else []
        for each in inner:
            self.assertNotIsInstance(each, (list, dict, set), place)
            self.assert_plain(each, place)

    def test_functions(self):
        for name, node in nodes():
            if isinstance(node, ast.FunctionDef):
                place = (name, node.name)
                self.assertLessEqual(node.end_lineno - node.lineno + 1, 40, place)
                self.assertEqual(node.decorator_list, [], place)
                self.assertIsNone(node.args.vararg or node.args.kwarg, place)
                self.assertEqual(node.args.kwonlyargs, [], place)

    def test_forms(self):
        for name, node in nodes():
            place = (name, getattr(node, "lineno", 0), type(node).__name__)
            self.assertNotIsInstance(node, FORMS_THAT_ARE_OUT, place)
            if isinstance(node, (ast.For, ast.While)):
                self.assertEqual(node.orelse, [], place)
            if isinstance(node, ast.Try):
                self.assertEqual(node.finalbody, [], place)
            if isinstance(node, ast.Assign):
                self.assertEqual(len(node.targets), 1, place)
                self.assertNotIsInstance(node.targets[0], (ast.Tuple, ast.List), place)
            if isinstance(node, ast.BinOp) and isinstance(node.op, ast.Pow):
                self.assertIsInstance(node.right, ast.Constant, place)
            if isinstance(node, ast.ListComp):
                self.assertEqual(len(node.generators), 1, place)
                self.assertLessEqual(len(node.generators[0].ifs), 1, place)
            if isinstance(node, ast.Constant):
                self.assertNotIsInstance(node.value, (float, complex, bytes), place)
                self.assertNotIn("%", str(node.value), place)

    def test_names(self):
        for name, node in nodes():
            if isinstance(node, ast.Name):
                self.assertRegex(node.id, r"^[A-Za-z]\w*$", name)
                if hasattr(builtins, node.id):
                    self.assertIn(node.id, OWN_NAMES_OF_PYTHON, (name, node.lineno))
                    self.assertIsInstance(node.ctx, ast.Load, (name, node.lineno))
            if isinstance(node, ast.arg):
                self.assertFalse(hasattr(builtins, node.arg), (name, node.lineno))
            if isinstance(node, ast.Attribute):
                self.assertIn(node.attr, METHODS, (name, node.lineno))

    def test_imports_are_of_the_package_alone(self):
        for name, node in nodes():
            if isinstance(node, ast.ImportFrom):
                self.assertEqual(node.level, 0, name)
                self.assertTrue(node.module.startswith("latticeseal."), (name, node.module))


if __name__ == "__main__":
    unittest.main()
