"""Those rules of the language that are quick to check: sizes, characters, imports, and what may stand in a file."""

import ast
import builtins
import unittest
from pathlib import Path

PACKAGE = Path(__file__).resolve().parent.parent / "rowsthatname"
LIBRARY = {"heapq": {"heappush", "heappop", "heapify", "heapreplace", "heappushpop"},
           "math": {"gcd", "lcm", "isqrt", "comb", "perm", "factorial"},
           "itertools": {"product", "combinations", "permutations"}}
BUILTINS = set("""len range enumerate zip min max sum abs sorted reversed int str bool bytes list tuple dict set
    frozenset isinstance ord repr any all divmod iter next map super property staticmethod classmethod
    Exception ValueError TypeError KeyError IndexError LookupError ZeroDivisionError ArithmeticError OverflowError
    RuntimeError NotImplementedError AttributeError StopIteration NotImplemented""".split())
METHODS = set("""append clear copy count endswith extend find get index insert isalnum isalpha isdigit islower isspace
    isupper items join keys ljust lower lstrip partition pop remove replace reverse rfind rjust rpartition rsplit
    rstrip setdefault split splitlines startswith strip update upper values zfill bit_length""".split())
# What a doctest shows is kept as a builtin _ from then on, which is none of Python's.
OF_PYTHON = set(dir(builtins)) - {"_"}
BARRED = (ast.Global, ast.AsyncFunctionDef, ast.Await, ast.Div, ast.GeneratorExp, ast.TryStar, ast.Import)


def trees():
    """The name, the text and the tree of each file of the package."""
    found = []
    for path in sorted(PACKAGE.rglob("*.py")):
        text = path.read_text(encoding="utf-8")
        found.append((path.name, text, ast.parse(text)))
    return found


def nodes():
    """Each node of the package with the name of its file."""
    return [(name, node) for name, _, tree in trees() for node in ast.walk(tree)]


def place(name, node):
    """Where a node stands."""
    return f"{name}:{getattr(node, 'lineno', 0)}"


class Files(unittest.TestCase):

    def test_nothing_but_plain_files(self):
        for path in PACKAGE.rglob("*"):
            if path.name != "__pycache__" and path.parent.name != "__pycache__":
                self.assertTrue(path.is_dir() or path.suffix == ".py", path)
                self.assertEqual(path.name, path.name.lower())
        self.assertTrue((PACKAGE / "__init__.py").is_file())

    def test_sizes_and_characters(self):
        for name, text, _ in trees():
            lines = text.split("\n")
            self.assertLessEqual(len(lines), 399, name)
            for number, line in enumerate(lines, start=1):
                self.assertLessEqual(len(line), 120, f"{name}:{number}")
                self.assertTrue(all(" " <= character <= "~" for character in line), f"{name}:{number}")

    def test_functions_are_short(self):
        for name, node in nodes():
            if isinstance(node, ast.FunctionDef):
                self.assertLessEqual(node.end_lineno - node.lineno + 1, 40, place(name, node))


class Imports(unittest.TestCase):

    def test_from_the_very_file_or_the_library(self):
        defined = {name[:-3]: self.names_of(tree) for name, _, tree in trees()}
        for name, node in nodes():
            if isinstance(node, ast.ImportFrom):
                asked = {alias.name for alias in node.names}
                folder, _, file = node.module.partition(".")
                allowed = defined[file] if folder == "rowsthatname" else LIBRARY[node.module]
                self.assertLessEqual(asked, allowed, place(name, node))
                self.assertEqual(node.level, 0)

    def test_no_files_import_from_each_other(self):
        ahead = {name[:-3]: {node.module.partition(".")[2] for node in ast.walk(tree)
                             if isinstance(node, ast.ImportFrom) and node.module.startswith("rowsthatname.")}
                 for name, _, tree in trees()}
        while ahead:
            free = [name for name in ahead if not ahead[name] & set(ahead)]
            self.assertTrue(free, ahead)
            ahead = {name: ahead[name] for name in ahead if name not in free}

    def names_of(self, tree):
        names = {node.name for node in tree.body if isinstance(node, (ast.FunctionDef, ast.ClassDef))}
        return names | {node.targets[0].id for node in tree.body if isinstance(node, ast.Assign)}


class Statements(unittest.TestCase):

    def test_nothing_that_is_barred(self):
        for name, node in nodes():
            self.assertNotIsInstance(node, BARRED, place(name, node))
            if isinstance(node, ast.Constant):
                self.assertNotIsInstance(node.value, (float, complex), place(name, node))
                self.assertNotIn("%", str(node.value), place(name, node))

    def test_no_other_builtins(self):
        others = OF_PYTHON - BUILTINS
        for name, node in nodes():
            if isinstance(node, ast.Name):
                self.assertNotIn(node.id, others, place(name, node))

    def test_no_names_of_builtins_or_imports_again(self):
        for name, _, tree in trees():
            taken = OF_PYTHON | {node.name for node in tree.body if isinstance(node, ast.ClassDef)}
            taken |= {alias.name for node in tree.body if isinstance(node, ast.ImportFrom) for alias in node.names}
            for node in ast.walk(tree):
                if isinstance(node, ast.arg):
                    self.assertNotIn(node.arg, taken, place(name, node))
                if isinstance(node, ast.Name) and isinstance(node.ctx, ast.Store):
                    self.assertNotIn(node.id, taken, place(name, node))

    def test_no_other_methods(self):
        own = {node.name for _, node in nodes() if isinstance(node, ast.FunctionDef)}
        for name, node in nodes():
            if isinstance(node, ast.Call) and isinstance(node.func, ast.Attribute):
                self.assertIn(node.func.attr, METHODS | own, place(name, node))


if __name__ == "__main__":
    unittest.main()
