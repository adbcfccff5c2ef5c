"""Those rules of the program's language that a short test can see, for each file of the package."""

import ast
import os
import re
import unittest
import warnings

ROOT = os.path.dirname(os.path.dirname(os.path.abspath(__file__)))
PACKAGE = os.path.join(ROOT, "cutrelays")
LIBRARY = ("heapq", "math", "itertools", "collections", "__future__")


def files():
    """Return the texts of the package's files by their names."""
    found = {}
    for name in sorted(os.listdir(PACKAGE)):
        if name != "__pycache__":
            with open(os.path.join(PACKAGE, name), encoding="utf-8", newline="") as file:
                found[name] = file.read()
    return found


def nodes(text, kind):
    return [node for node in ast.walk(ast.parse(text)) if isinstance(node, kind)]


class Language(unittest.TestCase):
    def test_file_names(self):
        self.assertIn("__init__.py", files())
        for name in files():
            self.assertRegex(name, r"\A[a-z0-9_]+\.py\Z")

    def test_characters_and_sizes(self):
        for name, text in files().items():
            lines = text.split("\n")
            self.assertLessEqual(len(lines) - 1, 399, name)
            for line in lines:
                self.assertRegex(line, r"\A[ -~]{0,120}\Z", name)

    def test_function_sizes(self):
        for name, text in files().items():
            for node in nodes(text, ast.FunctionDef):
                self.assertLessEqual(node.end_lineno - node.lineno + 1, 40, f"{name}: {node.name}")

    def test_python_gives_no_warning(self):
        for name, text in files().items():
            with self.subTest(name=name), warnings.catch_warnings():
                warnings.simplefilter("error")
                compile(text, name, "exec")

    def test_imports(self):
        for name, text in files().items():
            with self.subTest(name=name):
                if name != "__main__.py":
                    self.assertEqual(nodes(text, ast.Import), [])
                for node in nodes(text, ast.ImportFrom):
                    self.assertEqual(node.level, 0)
                    self.assertIn(node.module.partition(".")[0], LIBRARY + ("cutrelays",))

    def test_names_are_imported_from_the_file_that_defines_them(self):
        texts = files()
        for name, text in texts.items():
            for node in nodes(text, ast.ImportFrom):
                package, _, source = node.module.partition(".")
                if package == "cutrelays":
                    for alias in node.names:
                        defined = rf"(?m)^(def |class )?{re.escape(alias.name)}\b"
                        self.assertRegex(texts[source + ".py"], defined, name)


if __name__ == "__main__":
    unittest.main()
