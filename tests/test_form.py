"""The form of the package's files, as far as it is plain to see."""

import ast
import re
import unittest
from pathlib import Path

PACKAGE = Path(__file__).resolve().parent.parent / "anycut"
LIBRARY = ["heapq", "math", "itertools", "collections"]
BARRED = (
    "type|typing|enum|Enum|Flag|Generic|Protocol|ABC|namedtuple|NamedTuple|dataclass|overload|contextmanager|Meta"
)
DEFINED = {
    "errors": [
        "CutError", "InvalidName", "DoubleName", "InvalidStep", "InvalidState", "UnknownCall", "UnlikeCalls",
        "EmptyBatch", "InvalidLength", "NothingToUndo", "Unreadable",
    ],
    "services": ["Service", "side", "reduced"],
    "rules": ["Rule"],
    "cuts": [
        "play", "is_right_cut", "wrong_cut", "is_right", "right_length", "first_unlike", "least_left_out",
        "may_change",
    ],
    "maps": ["map_of", "all_maps", "least_row", "do_same", "exchanges", "led", "settling", "idle"],
    "desks": ["Desk", "SafeDesk"],
    "texts": ["show_service", "show_rule"],
    "readings": ["read_service", "read_rule"],
}
DESK = [
    "__init__", "__call__", "done", "state", "waiting", "cut", "answers", "is_true", "undo", "__len__", "__eq__",
]
METHODS = {
    "Service": ["__init__", "calls", "table", "__len__", "__getitem__", "run", "__eq__"],
    "Rule": ["__init__", "early", "keyed", "ranks", "batch", "order", "without", "__eq__"],
    "Desk": DESK,
    "SafeDesk": DESK,
}


def parsed():
    return [(path.name, path.read_text("utf-8"), ast.parse(path.read_text("utf-8"))) for path in PACKAGE.glob("*.py")]


class Form(unittest.TestCase):
    def test_only_files_of_the_program(self):
        for path in PACKAGE.iterdir():
            self.assertTrue(path.suffix == ".py" or path.name == "__pycache__", path.name)

    def test_sizes_and_characters(self):
        for name, text, tree in parsed():
            self.assertLess(len(text.splitlines()), 400, name)
            self.assertLessEqual(max(len(line) for line in text.splitlines()), 120, name)
            self.assertTrue(all(sign == "\n" or " " <= sign <= "~" for sign in text), name)
            for node in ast.walk(tree):
                if isinstance(node, ast.FunctionDef):
                    self.assertLessEqual(node.end_lineno - node.lineno + 1, 40, (name, node.name))

    def test_imports_of_the_package_and_of_little_else(self):
        for name, _, tree in parsed():
            for node in ast.walk(tree):
                self.assertNotIsInstance(node, ast.Import, name)
                if isinstance(node, ast.ImportFrom):
                    own = node.module.startswith("anycut.") or node.module in LIBRARY
                    self.assertTrue(own, (name, node.module))

    def test_words_that_are_not_used(self):
        for name, text, tree in parsed():
            self.assertIsNone(re.search(r"\b(" + BARRED + r")\b", text), name)
            for node in ast.walk(tree):
                self.assertNotIsInstance(node, (ast.Global, ast.AsyncFunctionDef), name)
                self.assertFalse(isinstance(node, ast.Constant) and isinstance(node.value, float), name)
                self.assertFalse(isinstance(node, ast.Constant) and "%" in str(node.value), name)

    def test_the_interface_is_defined_where_it_is_listed(self):
        trees = {name[:-3]: tree for name, _, tree in parsed()}
        for name, expected in DEFINED.items():
            defined = {node.name: node for node in trees[name].body if hasattr(node, "name")}
            self.assertEqual([each for each in expected if each not in defined], [], name)
            for kind in METHODS.keys() & defined.keys():
                methods = [node.name for node in defined[kind].body if isinstance(node, ast.FunctionDef)]
                self.assertEqual([each for each in METHODS[kind] if each not in methods], [], kind)
