"""The rules of LANGUAGE.md that a walk over the package's files can see."""

import ast
import builtins
import re
import unittest
from pathlib import Path

PACKAGE = Path(__file__).resolve().parent.parent / "firewatchdesk"
OWN_NAMES = set("""len range enumerate zip min max sum abs sorted reversed int str bool list tuple dict set frozenset
isinstance ord repr any all divmod Exception ValueError TypeError KeyError IndexError LookupError ZeroDivisionError
ArithmeticError OverflowError RuntimeError NotImplementedError AttributeError StopIteration""".split())
METHODS = set("""append clear copy count endswith extend find get index insert isalnum isalpha isdigit islower isspace
isupper items join keys ljust lower lstrip partition pop remove replace reverse rfind rjust rpartition rsplit rstrip
setdefault split splitlines startswith strip update upper values zfill bit_length""".split())
PARTS = (
    ast.Module, ast.FunctionDef, ast.ClassDef, ast.arguments, ast.arg, ast.Lambda,
    ast.Assign, ast.AugAssign, ast.If, ast.While, ast.For, ast.Return, ast.Break, ast.Continue, ast.Pass, ast.Raise,
    ast.Try, ast.ExceptHandler, ast.Expr, ast.BinOp, ast.UnaryOp, ast.BoolOp, ast.Compare, ast.IfExp, ast.Call,
    ast.keyword, ast.Attribute, ast.Subscript, ast.Slice, ast.ListComp, ast.comprehension, ast.JoinedStr,
    ast.FormattedValue, ast.Constant, ast.List, ast.Tuple, ast.Dict, ast.Name, ast.expr_context, ast.operator,
    ast.unaryop, ast.boolop, ast.cmpop, ast.ImportFrom, ast.alias,
)
WORDS_NOWHERE = re.compile(
    r"\b(type|typing|typing_extensions|enum|Enum|IntEnum|StrEnum|Flag|IntFlag|Generic|Protocol|ABC|ABCMeta|namedtuple"
    r"|NamedTuple|TypedDict|TYPE_CHECKING|abstractmethod)\b|dataclass|overload|contextmanager")
NAMES_NOWHERE = {"register", "mro", "elements", "open", "input", "version_info", "with_traceback", "add_note"}


def package_files():
    return sorted(path for path in PACKAGE.rglob("*") if "__pycache__" not in path.parts)


def bound_and_used(tree):
    """Every name in the tree, as (name, is it bound there)."""
    for node in ast.walk(tree):
        if isinstance(node, ast.Name):
            yield node.id, not isinstance(node.ctx, ast.Load)
        elif isinstance(node, ast.arg):
            yield node.arg, True
        elif isinstance(node, ast.Attribute):
            yield node.attr, False
        elif isinstance(node, (ast.FunctionDef, ast.ClassDef)):
            yield node.name, True


class LanguageTest(unittest.TestCase):
    def setUp(self):
        self.texts = {path.name: path.read_text("utf-8") for path in package_files()}
        self.trees = {name: ast.parse(text) for name, text in self.texts.items()}

    def nodes(self, *kinds):
        return [(name, node) for name, tree in self.trees.items() for node in ast.walk(tree) if isinstance(node, kinds)]

    def test_files(self):
        self.assertEqual(sorted(self.texts), ["__init__.py", "watch.py"])

    def test_nothing_is_imported(self):
        self.assertEqual(self.nodes(ast.Import, ast.ImportFrom), [])

    def test_signs_and_lengths(self):
        for name, text in self.texts.items():
            self.assertTrue(all(sign == "\n" or " " <= sign <= "~" for sign in text), name)
            self.assertLessEqual(len(text.splitlines()), 400, name)
            self.assertLessEqual(max(len(row) for row in text.splitlines()), 120, name)
        for name, node in self.nodes(ast.FunctionDef):
            self.assertLessEqual(node.end_lineno - node.lineno + 1, 40, (name, node.name))

    def test_words_that_stand_nowhere(self):
        for name, text in self.texts.items():
            self.assertIsNone(WORDS_NOWHERE.search(text), name)

    def test_parts_of_the_language(self):
        for name, tree in self.trees.items():
            for node in ast.walk(tree):
                self.assertIsInstance(node, PARTS, (name, getattr(node, "lineno", None)))
                self.assertFalse(isinstance(node, (ast.For, ast.While)) and node.orelse, name)
                self.assertFalse(isinstance(node, ast.Try) and node.finalbody, name)
                self.assertFalse(isinstance(node, ast.Assign) and len(node.targets) > 1, name)
                self.assertFalse(isinstance(node, (ast.Div, ast.MatMult)), name)
                self.assertFalse(isinstance(node, ast.Constant) and isinstance(node.value, (float, bytes, complex)))
                self.assertFalse(isinstance(node, ast.ListComp) and len(node.generators) > 1, name)
                self.assertFalse(isinstance(node, ast.comprehension) and len(node.ifs) > 1, name)

    def test_definitions_are_plain(self):
        for name, node in self.nodes(ast.FunctionDef, ast.ClassDef):
            self.assertEqual(node.decorator_list, [], (name, node.name))
        for name, node in self.nodes(ast.arguments):
            self.assertFalse(node.vararg or node.kwarg or node.kwonlyargs or node.posonlyargs, name)

    def test_names(self):
        own = set(dir(builtins))
        for name, tree in self.trees.items():
            for word, bound in bound_and_used(tree):
                self.assertNotIn(word, NAMES_NOWHERE, name)
                self.assertTrue(word == "__init__" or re.fullmatch("[A-Za-z][A-Za-z0-9_]*", word), word)
                self.assertFalse(bound and word in own, (name, word))
        for name, node in self.nodes(ast.Name):
            self.assertTrue(node.id not in own or node.id in OWN_NAMES, (name, node.id))

    def test_methods_called_are_listed_or_own(self):
        defined = {node.name for name, node in self.nodes(ast.FunctionDef)}
        for name, node in self.nodes(ast.Call):
            if isinstance(node.func, ast.Attribute):
                self.assertIn(node.func.attr, METHODS | defined, (name, node.lineno))

    def test_the_top_of_a_file_does_nothing(self):
        for name, tree in self.trees.items():
            self.assertIsNotNone(ast.get_docstring(tree), name)
            for node in tree.body[1:]:
                self.assertIsInstance(node, (ast.FunctionDef, ast.ClassDef, ast.Assign), name)
                if isinstance(node, ast.Assign):
                    ast.literal_eval(node.value)


if __name__ == "__main__":
    unittest.main()
