"""The package's files keep to the form that is asked of them, as far as it can be read off them."""

import ast
import inspect
import os
import re
import unittest

import pagestraight
from pagestraight import askew

FOLDER = os.path.dirname(os.path.abspath(pagestraight.__file__))
INTERFACE = {
    "st_shear": ["k", "d", "w", "h", "x"],
    "st_slant": ["k", "d", "w", "h", "x"],
    "st_roll": ["k", "d", "w", "h", "x"],
    "st_counts": ["k", "d", "w", "h", "x"],
    "st_straight": ["m", "d", "w", "h", "x"],
    "st_sharp": ["l"],
    "st_gaps": ["most", "l"],
    "st_bands": ["most", "least", "l"],
    "st_margins": ["most", "w", "h", "x"],
    "st_smooth": ["d", "l"],
    "st_hills": ["l"],
    "st_upright": ["w", "h", "x"],
    "st_turn": ["w", "h", "x"],
    "st_shift1": ["w", "k", "d", "c"],
}
WORDS_NOT_USED = re.compile(
    r"\b(type|typing|typing_extensions|enum|Enum|IntEnum|StrEnum|Flag|IntFlag|Generic|Protocol|ABC|ABCMeta"
    r"|namedtuple|NamedTuple|TypedDict|TYPE_CHECKING|abstractmethod)\b|dataclass|overload|contextmanager")
NODES_NOT_USED = (
    ast.Import, ast.ImportFrom, ast.With, ast.Match, ast.Delete, ast.Global, ast.Nonlocal, ast.Assert,
    ast.Yield, ast.YieldFrom, ast.Await, ast.AsyncFunctionDef, ast.SetComp, ast.DictComp, ast.GeneratorExp,
    ast.NamedExpr, ast.Starred, ast.Div, ast.Set,
)


def sources():
    for name in sorted(os.listdir(FOLDER)):
        if name != "__pycache__":
            with open(os.path.join(FOLDER, name), encoding="utf-8", newline="") as file:
                yield name, file.read()


class Form(unittest.TestCase):
    def test_the_interface(self):
        for name, parameters in INTERFACE.items():
            function = getattr(askew, name)
            self.assertEqual(function.__module__, "pagestraight.askew")
            told = inspect.signature(function).parameters.values()
            self.assertEqual([p.name for p in told], parameters)
            self.assertTrue(all(p.kind is p.POSITIONAL_OR_KEYWORD and p.default is p.empty for p in told))

    def test_no_other_calls(self):
        self.assertEqual(sorted(name for name in vars(askew) if name.startswith("st_")), sorted(INTERFACE))

    def test_files(self):
        for name, text in sources():
            with self.subTest(name=name):
                self.assertRegex(name, r"^[a-z0-9_]+\.py$")
                self.assertRegex(text, r"\A[ -~\n]*\Z")
                self.assertIsNone(WORDS_NOT_USED.search(text))
                self.assertLessEqual(len(text.splitlines()), 399)
                self.assertLessEqual(max(len(line) for line in text.splitlines()), 120)

    def test_what_stands_in_them(self):
        for name, text in sources():
            for node in ast.walk(ast.parse(text)):
                with self.subTest(name=name, line=getattr(node, "lineno", 0)):
                    self.assertNotIsInstance(node, NODES_NOT_USED)
                    if isinstance(node, ast.FunctionDef):
                        self.assertLessEqual(node.end_lineno - node.lineno + 1, 40)
                    if isinstance(node, ast.Constant):
                        self.assertNotIsInstance(node.value, (float, complex, bytes))


if __name__ == "__main__":
    unittest.main()
