"""The interface's names and arguments, and those limits of the package's files that can be read off them."""

import ast
import importlib
import inspect
import pathlib
import re
import unittest

import gapbench

FOLDER = pathlib.Path(gapbench.__file__).parent
FILES = sorted(FOLDER.glob("*.py"))
INTERFACE = {
    "gapbench.bench": {
        "text_of": ["bench"],
        "moved": ["bench", "place"],
        "put_in": ["bench", "sign"],
        "taken_ahead": ["bench"],
        "taken_behind": ["bench"],
    },
    "gapbench.rows": {"rows_of": ["text"], "row_at": ["text", "place"], "first_of": ["text", "number"]},
    "gapbench.day": {"answers": ["deeds"], "states": ["deeds"], "bench_behind": ["deeds"]},
}
STATEMENTS = (ast.Assign, ast.AugAssign, ast.If, ast.While, ast.For, ast.Return, ast.Break, ast.Continue, ast.Pass,
              ast.Raise, ast.Try, ast.Expr, ast.FunctionDef, ast.ClassDef, ast.ImportFrom)
WORDS_OUT = re.compile(r"\b(type|typing|enum|Enum|Generic|Protocol|ABC|namedtuple|NamedTuple)\b|dataclass|overload")


class Interface(unittest.TestCase):
    def test_names_and_arguments(self):
        for module, functions in INTERFACE.items():
            for name, arguments in functions.items():
                function = getattr(importlib.import_module(module), name)
                self.assertTrue(inspect.isfunction(function), name)
                self.assertEqual(function.__module__, module)
                parameters = inspect.signature(function).parameters.values()
                self.assertEqual([one.name for one in parameters], arguments)
                self.assertTrue(all(one.kind == one.POSITIONAL_OR_KEYWORD for one in parameters))
                self.assertTrue(all(one.default is one.empty for one in parameters))


class Files(unittest.TestCase):
    def test_what_lies_in_the_package(self):
        found = sorted(path.name for path in FOLDER.iterdir() if path.name != "__pycache__")
        self.assertEqual(found, ["__init__.py", "bench.py", "day.py", "rows.py"])

    def test_signs_and_sizes(self):
        for path in FILES:
            text = path.read_bytes().decode("ascii")
            self.assertTrue(all(sign == "\n" or " " <= sign <= "~" for sign in text), path.name)
            self.assertLessEqual(len(text.splitlines()), 400)
            self.assertLessEqual(max(len(line) for line in text.splitlines()), 120)
            self.assertIsNone(WORDS_OUT.search(text), path.name)

    def test_the_length_of_functions_and_the_kinds_of_statements(self):
        for path in FILES:
            for node in ast.walk(ast.parse(path.read_text())):
                if isinstance(node, ast.stmt):
                    self.assertIsInstance(node, STATEMENTS, path.name)
                if isinstance(node, ast.FunctionDef):
                    self.assertLessEqual(node.end_lineno - node.lineno + 1, 40)
                    self.assertEqual(node.decorator_list, [])

    def test_only_the_package_itself_is_imported(self):
        for path in FILES:
            for node in ast.walk(ast.parse(path.read_text())):
                self.assertNotIsInstance(node, ast.Import)
                if isinstance(node, ast.ImportFrom):
                    self.assertEqual(node.level, 0)
                    self.assertEqual(node.module.split(".")[0], "gapbench")


if __name__ == "__main__":
    unittest.main()
