"""Those rules of the program's language that a short test can see, for each file of the package."""

import ast
import builtins
import os
import re
import unittest
import warnings

ROOT = os.path.dirname(os.path.dirname(os.path.abspath(__file__)))
PACKAGE = os.path.join(ROOT, "cutrelays")
LIBRARY = ("heapq", "math", "itertools", "collections", "__future__")

# The builtins that a program may name: those of L8 (but chr, L27, and print: there is no __main__.py) and of L5 and L23.
BUILTINS = """
    len range enumerate zip min max sum abs sorted reversed int str bool bytes list tuple dict set frozenset isinstance ord
    repr any all divmod pow getattr hasattr setattr map iter next type super staticmethod classmethod property
    Exception ValueError TypeError KeyError IndexError LookupError ZeroDivisionError ArithmeticError OverflowError
    RuntimeError NotImplementedError AttributeError StopIteration NotImplemented
""".split()

# The methods of builtin values that a program may call (the first list of L25), and words that are no names (L17).
METHODS = """
    append clear copy count endswith extend find get index insert isalnum isalpha isdigit islower isspace isupper items join
    keys ljust lower lstrip partition pop remove replace reverse rfind rjust rpartition rsplit rstrip setdefault split
    splitlines startswith strip update upper values zfill bit_length
""".split()
NO_NAMES = """
    register mro elements open input law version_info with_traceback add_note attrgetter breakpoint builtins compile copyright
    delattr dir eval exec exit gc globals help id importlib license locals methodcaller os quit vars sys
""".split()

# A doctest that runs in the same process leaves a builtin _ behind.
TAKEN = set(dir(builtins)) - {"_"}


def files():
    """Return the texts of the package's files by their names."""
    found = {}
    for name in sorted(os.listdir(PACKAGE)):
        if name != "__pycache__":
            with open(os.path.join(PACKAGE, name), encoding="utf-8", newline="") as file:
                found[name] = file.read()
    return found


def nodes(text, kind):
    return [node for node in ast.walk(ast.parse(text)) if isinstance(node, kind)]


class Language(unittest.TestCase):
    def test_file_names(self):
        self.assertIn("__init__.py", files())
        for name in files():
            self.assertRegex(name, r"\A[a-z0-9_]+\.py\Z")

    def test_characters_and_sizes(self):
        for name, text in files().items():
            lines = text.split("\n")
            self.assertLessEqual(len(lines) - 1, 399, name)
            for line in lines:
                self.assertRegex(line, r"\A[ -~]{0,120}\Z", name)

    def test_function_sizes(self):
        for name, text in files().items():
            for node in nodes(text, ast.FunctionDef):
                self.assertLessEqual(node.end_lineno - node.lineno + 1, 40, f"{name}: {node.name}")

    def test_python_gives_no_warning(self):
        for name, text in files().items():
            with self.subTest(name=name), warnings.catch_warnings():
                warnings.simplefilter("error")
                compile(text, name, "exec")

    def test_builtins(self):
        for name, text in files().items():
            used = {node.id for node in nodes(text, ast.Name)} & TAKEN
            self.assertLessEqual(used, set(BUILTINS), name)

    def test_no_name_has_another_meaning(self):
        for name, text in files().items():
            taken = TAKEN | {alias.name for node in nodes(text, ast.ImportFrom) for alias in node.names}
            taken |= {node.name for node in nodes(text, ast.ClassDef)}
            given = {node.id for node in nodes(text, ast.Name) if not isinstance(node.ctx, ast.Load)}
            given |= {node.arg for node in nodes(text, ast.arg)} | {node.name for node in ast.parse(text).body
                                                                  if isinstance(node, ast.FunctionDef)}
            self.assertEqual(given & taken, set(), name)

    def test_no_floats_and_no_generator_expressions(self):
        barred = (ast.Div, ast.GeneratorExp, ast.Global, ast.Await, ast.AsyncFunctionDef)
        for name, text in files().items():
            self.assertEqual(nodes(text, barred), [], name)
            for node in nodes(text, ast.Constant):
                self.assertNotIsInstance(node.value, (float, complex), name)

    def test_names_are_bound_once_at_module_level(self):
        for name, text in files().items():
            bound = [alias.name for node in nodes(text, ast.ImportFrom) for alias in node.names]
            for node in ast.parse(text).body:
                if isinstance(node, ast.Assign):
                    bound += [target.id for target in node.targets]
                elif isinstance(node, (ast.FunctionDef, ast.ClassDef)):
                    bound.append(node.name)
            self.assertEqual(len(bound), len(set(bound)), name)

    def test_no_two_files_import_from_each_other(self):
        wanted = {name[:-3]: {node.module.partition(".")[2] for node in nodes(text, ast.ImportFrom)}
                  for name, text in files().items()}
        while wanted:
            free = [name for name, sources in wanted.items() if not sources & set(wanted)]
            self.assertNotEqual(free, [], f"a ring among {sorted(wanted)}")
            wanted = {name: sources for name, sources in wanted.items() if name not in free}

    def test_methods_are_own_ones_or_allowed_ones(self):
        texts = files().values()
        own = {node.name for text in texts for node in nodes(text, ast.FunctionDef)}
        assigned = {node.attr for text in texts for node in nodes(text, ast.Attribute) if isinstance(node.ctx, ast.Store)}
        for name, text in files().items():
            for node in nodes(text, ast.Attribute):
                self.assertIn(node.attr, own | assigned | set(METHODS), f"{name}: {node.lineno}")
        self.assertEqual(own & assigned, set())

    def test_names_that_are_not_used(self):
        for name, text in files().items():
            used = {node.id for node in nodes(text, ast.Name)} | {node.arg for node in nodes(text, (ast.arg, ast.keyword))}
            used |= {node.name for node in nodes(text, (ast.FunctionDef, ast.ClassDef))}
            used |= {node.attr for node in nodes(text, ast.Attribute)}
            self.assertEqual(used & set(NO_NAMES), set(), name)

    def test_is_stands_beside_none_true_and_false(self):
        for name, text in files().items():
            for node in nodes(text, ast.Compare):
                for sign, other in zip(node.ops, node.comparators):
                    if isinstance(sign, (ast.Is, ast.IsNot)):
                        self.assertIsInstance(other, ast.Constant, f"{name}: {node.lineno}")

    def test_sets_are_not_gone_through(self):
        for name, text in files().items():
            self.assertEqual(nodes(text, (ast.Set, ast.SetComp)), [], name)
            within = [node.args[0] for node in nodes(text, ast.Call)
                      if isinstance(node.func, ast.Name) and node.func.id in ("sorted", "len")]
            made = [node for node in ast.walk(ast.parse(text)) if isinstance(node, ast.Call)
                    and isinstance(node.func, ast.Name) and node.func.id == "set"]
            self.assertEqual(len(made), sum(isinstance(node, ast.Call) and getattr(node.func, "id", "") == "set"
                                            for node in within), name)

    def test_imports(self):
        for name, text in files().items():
            with self.subTest(name=name):
                if name != "__main__.py":
                    self.assertEqual(nodes(text, ast.Import), [])
                for node in nodes(text, ast.ImportFrom):
                    self.assertEqual(node.level, 0)
                    self.assertIn(node.module.partition(".")[0], LIBRARY + ("cutrelays",))

    def test_names_are_imported_from_the_file_that_defines_them(self):
        texts = files()
        for name, text in texts.items():
            for node in nodes(text, ast.ImportFrom):
                package, _, source = node.module.partition(".")
                if package == "cutrelays":
                    for alias in node.names:
                        defined = rf"(?m)^(def |class )?{re.escape(alias.name)}\b"
                        self.assertRegex(texts[source + ".py"], defined, name)


if __name__ == "__main__":
    unittest.main()
