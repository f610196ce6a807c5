"""What the document and the language rules ask of the package as a whole."""

import ast
import builtins
import contextlib
import inspect
import io
import pathlib
import re
import sys
import unittest
from unittest import mock

import deckturns
from deckturns import shuffles

FOLDER = pathlib.Path(deckturns.__file__).parent
FILES = sorted(FOLDER.glob("*.py"))

PYTHONS_OWN_NAMES = set("""
    len range enumerate zip min max sum abs sorted reversed int str bool list tuple dict set frozenset isinstance
    ord repr any all divmod Exception ValueError TypeError KeyError IndexError LookupError ZeroDivisionError
    ArithmeticError OverflowError RuntimeError NotImplementedError AttributeError StopIteration
""".split())

METHODS = set("""
    append clear copy count endswith extend find get index insert isalnum isalpha isdigit islower isspace isupper
    items join keys ljust lower lstrip partition pop remove replace reverse rfind rjust rpartition rsplit rstrip
    setdefault split splitlines startswith strip update upper values zfill bit_length
""".split())

WORDS_NOT_USED = re.compile(
    r"\b(type|typing|typing_extensions|enum|Enum|IntEnum|StrEnum|Flag|IntFlag|Generic|Protocol|ABC|ABCMeta"
    r"|namedtuple|NamedTuple|TypedDict|TYPE_CHECKING|abstractmethod)\b|dataclass|overload|contextmanager")

FORMS_NOT_USED = (
    ast.With, ast.Match, ast.Delete, ast.Global, ast.Nonlocal, ast.Assert, ast.Yield, ast.YieldFrom, ast.Await,
    ast.AsyncFor, ast.AsyncWith, ast.AsyncFunctionDef, ast.GeneratorExp, ast.SetComp, ast.DictComp, ast.NamedExpr,
    ast.Starred, ast.Div)


def nodes(path):
    return list(ast.walk(ast.parse(path.read_text(encoding="utf-8"))))


class Interface(unittest.TestCase):
    def test_names_and_arguments(self):
        self.assertEqual(list(inspect.signature(shuffles.perfect).parameters), ["inwards", "deck"])
        self.assertEqual(list(inspect.signature(shuffles.order).parameters), ["inwards", "n"])
        self.assertEqual(list(inspect.signature(shuffles.bring).parameters), ["n", "place"])
        self.assertEqual(list(inspect.signature(shuffles.counted).parameters), ["n", "step"])
        self.assertEqual(list(inspect.signature(shuffles.marked).parameters), ["deck", "marks"])
        self.assertEqual(list(inspect.signature(shuffles.put_in_order).parameters), ["deck", "marks"])
        self.assertEqual(list(inspect.signature(shuffles.rising).parameters), ["deck"])
        self.assertEqual(list(inspect.signature(shuffles.ways).parameters), ["packets", "deck"])
        self.assertEqual(list(inspect.signature(shuffles.gilbreath).parameters), ["deck"])

    def test_arguments_by_name(self):
        self.assertEqual(shuffles.perfect(inwards=1, deck=[0, 1, 2, 3]), [0, 2, 0, 3, 1])
        self.assertEqual(shuffles.order(inwards=1, n=4), [4])
        self.assertEqual(shuffles.bring(n=8, place=6), [3, 1, 1, 0])
        self.assertEqual(shuffles.counted(n=3, step=2), [0, 1, 0, 2])
        self.assertEqual(shuffles.marked(deck=[0, 1, 2], marks=[1, 0, 0]), [0, 2, 0, 1])
        self.assertEqual(shuffles.put_in_order(deck=[0, 1, 2], marks=[1, 0, 0]), [0, 1, 2, 0])
        self.assertEqual(shuffles.rising(deck=[2, 0, 1]), [2])
        self.assertEqual(shuffles.ways(packets=3, deck=[1, 0]), [3])
        self.assertEqual(shuffles.gilbreath(deck=[1, 2, 0]), [1])


class NothingButAnswers(unittest.TestCase):
    def test_nothing_is_imported(self):
        for path in FILES:
            for node in nodes(path):
                if isinstance(node, ast.Import):
                    self.fail(f"{path.name}: line {node.lineno} imports")
                if isinstance(node, ast.ImportFrom):
                    self.assertTrue(node.module.startswith("deckturns."), f"{path.name}: line {node.lineno}")

    def test_no_name_of_pythons_own_beyond_the_rules(self):
        for path in FILES:
            for node in nodes(path):
                if isinstance(node, ast.Name) and hasattr(builtins, node.id):
                    self.assertIn(node.id, PYTHONS_OWN_NAMES, f"{path.name}: line {node.lineno}")

    def test_nothing_is_printed_or_read(self):
        printed = io.StringIO()
        unread = mock.Mock(spec=[])
        with contextlib.redirect_stdout(printed), contextlib.redirect_stderr(printed):
            with mock.patch.object(sys, "stdin", unread):
                for inwards in (0, 1):
                    shuffles.perfect(inwards, list(range(52)))
                    shuffles.order(inwards, 200)
                shuffles.bring(65536, 65535)
                shuffles.counted(52, 2147483647)
                shuffles.marked(list(range(52)), [255, 0] * 26)
                shuffles.put_in_order(list(range(52)), [255, 0] * 26)
                shuffles.rising(list(range(52)))
                shuffles.ways(1000000, list(range(52)))
                shuffles.gilbreath(list(range(52)))
        self.assertEqual(printed.getvalue(), "")


class Rules(unittest.TestCase):
    def test_files(self):
        names = {path.name for path in FOLDER.iterdir() if path.name != "__pycache__"}
        self.assertEqual(names, {path.name for path in FILES})
        self.assertLessEqual({"__init__.py", "shuffles.py"}, names)

    def test_signs_and_sizes(self):
        for path in FILES:
            text = path.read_bytes().decode("utf-8")
            self.assertRegex(text, r"\A[ -~\n]*\Z", path.name)
            lines = text.splitlines()
            self.assertLessEqual(len(lines), 400, path.name)
            self.assertLessEqual(max(len(line) for line in lines), 120, path.name)
            for node in nodes(path):
                if isinstance(node, ast.FunctionDef):
                    self.assertLessEqual(node.end_lineno - node.lineno + 1, 40, node.name)

    def test_words_and_forms_not_used(self):
        for path in FILES:
            self.assertNotRegex(path.read_text(encoding="utf-8"), WORDS_NOT_USED, path.name)
            for node in nodes(path):
                self.assertNotIsInstance(node, FORMS_NOT_USED, path.name)
                if isinstance(node, ast.Constant):
                    self.assertNotIsInstance(node.value, (float, complex, bytes), path.name)

    def test_names_and_methods(self):
        for path in FILES:
            for node in nodes(path):
                if isinstance(node, (ast.FunctionDef, ast.arg, ast.Name)):
                    name = getattr(node, "name", None) or getattr(node, "arg", None) or node.id
                    self.assertRegex(name, r"\A[A-Za-z][A-Za-z0-9_]*\Z", path.name)
                    if not isinstance(getattr(node, "ctx", None), ast.Load):
                        self.assertFalse(hasattr(builtins, name), f"{path.name}: line {node.lineno} binds {name}")
                # The package has no class, so every attribute is a method of Python's own values.
                if isinstance(node, ast.Attribute):
                    self.assertIn(node.attr, METHODS, f"{path.name}: line {node.lineno}")
                if isinstance(node, ast.Assign):
                    self.assertEqual(len(node.targets), 1, f"{path.name}: line {node.lineno}")


class Readme(unittest.TestCase):
    def test_its_examples_hold(self):
        text = (FOLDER.parent / "README.md").read_text(encoding="utf-8")
        examples = re.findall(r"^(\w+)(\(.*\)) +# (\[.*\])$", text, re.MULTILINE)
        self.assertEqual(
            {name for name, _, _ in examples},
            {"perfect", "order", "bring", "counted", "marked", "put_in_order", "rising", "ways", "gilbreath"})
        for name, arguments, answer in examples:
            values = ast.literal_eval(arguments[:-1] + ",)")
            self.assertEqual(getattr(shuffles, name)(*values), ast.literal_eval(answer), name + arguments)


if __name__ == "__main__":
    unittest.main()
