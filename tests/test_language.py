"""Checks of the package against rules of ../shared/LANGUAGE.md that can be seen in its text."""

import ast
import builtins
import re
import unittest
from pathlib import Path

PACKAGE = Path(__file__).resolve().parent.parent / "sameweb"

ALLOWED_BUILTINS = set(
    "len range enumerate zip min max sum abs sorted reversed int str bool bytes list tuple dict set isinstance ord "
    "repr any all divmod map iter next type super getattr hasattr setattr property staticmethod classmethod "
    "Exception ValueError TypeError KeyError IndexError LookupError ZeroDivisionError ArithmeticError OverflowError "
    "RuntimeError NotImplementedError AttributeError StopIteration NotImplemented".split())

BARRED_NODES = (ast.AsyncFunctionDef, ast.AsyncFor, ast.AsyncWith, ast.Await, ast.Import, ast.Div)

INTERFACE = {
    "errors.py": ["WebError", "BadWeb", "BadRow", "BadCells", "NoPoint", "NoTurn", "NoWeb"],
    "rows.py": ["is_row", "behind", "back"],
    "webs.py": ["Web", "renumbered", "is_same"],
    "cells.py": ["first_cells", "parted"],
    "ways.py": ["leading"],
    "tellings.py": ["brought"],
    "turns.py": ["floors", "many_turns", "steps_of", "alike"],
    "notes.py": ["shown", "read"],
    "shelves.py": ["Shelf"],
}

METHODS = {
    ("webs.py", "Web"): ["__init__", "colours", "ties", "beside"],
    ("shelves.py", "Shelf"): ["__init__", "put", "drop", "kind", "kinds", "way"],
}


def package_files():
    """The files of the package."""
    return sorted(path for path in PACKAGE.iterdir() if path.name != "__pycache__")


def trees():
    """The name and the syntax tree of each file of the package."""
    return [(path.name, ast.parse(path.read_text(encoding="utf-8"))) for path in package_files()]


def defined(nodes):
    """The names of the functions and classes defined straight among the nodes."""
    return [node.name for node in nodes if isinstance(node, (ast.FunctionDef, ast.ClassDef))]


class Language(unittest.TestCase):

    def test_l1_l14_files(self):
        names = [path.name for path in package_files()]
        self.assertIn("__init__.py", names)
        for name in names:
            self.assertRegex(name, r"^([a-z][a-z0-9_]*|__init__|__main__)\.py$")

    def test_l2_l16_imports(self):
        homes = {path.stem: dict(trees())[path.name] for path in package_files()}
        for name, tree in trees():
            body = [node for node in tree.body if not isinstance(node, ast.Expr)]
            imports = [node for node in ast.walk(tree) if isinstance(node, ast.ImportFrom)]
            with self.subTest(file=name):
                self.assertEqual(imports, body[:len(imports)])
            for node in imports:
                with self.subTest(file=name, line=node.lineno):
                    self.assertEqual(0, node.level)
                    self.assertRegex(node.module, r"^(sameweb\.[a-z_]+|heapq|math|itertools|collections)$")
                    if node.module.startswith("sameweb."):
                        home = homes[node.module.split(".")[1]].body
                        there = defined(home) + [at.targets[0].id for at in home if isinstance(at, ast.Assign)]
                        self.assertLessEqual({alias.name for alias in node.names}, set(there))

    def test_l3_module_level(self):
        allowed = (ast.ImportFrom, ast.FunctionDef, ast.ClassDef, ast.Assign, ast.AnnAssign)
        for name, tree in trees():
            for at, node in enumerate(tree.body):
                with self.subTest(file=name, line=node.lineno):
                    docstring = at == 0 and isinstance(node, ast.Expr) and isinstance(node.value, ast.Constant)
                    self.assertTrue(docstring or isinstance(node, allowed))

    def test_l6_l7_statements_and_values(self):
        for name, tree in trees():
            for node in ast.walk(tree):
                with self.subTest(file=name, line=getattr(node, "lineno", None)):
                    self.assertNotIsInstance(node, BARRED_NODES)
                    if isinstance(node, ast.Constant):
                        self.assertNotIsInstance(node.value, (float, complex))

    def test_l8_builtins(self):
        for name, tree in trees():
            used = {node.id for node in ast.walk(tree) if isinstance(node, ast.Name)}
            with self.subTest(file=name):
                self.assertEqual(set(), (used & set(dir(builtins))) - ALLOWED_BUILTINS)

    def test_l10_l14_size_and_characters(self):
        for path in package_files():
            text = path.read_text(encoding="utf-8")
            with self.subTest(file=path.name):
                self.assertLessEqual(len(text.splitlines()), 399)
                self.assertLessEqual(max(map(len, text.split("\n"))), 120)
                self.assertIsNone(re.search("[^ -~\n]", text))
            for node in ast.walk(ast.parse(text)):
                if isinstance(node, ast.FunctionDef):
                    with self.subTest(file=path.name, function=node.name):
                        self.assertLessEqual(node.end_lineno - node.lineno + 1, 40)

    def test_l12_l15_names(self):
        for name, tree in trees():
            for node in ast.walk(tree):
                names = []
                if isinstance(node, ast.Name) and not isinstance(node.ctx, ast.Load):
                    names.append(node.id)
                elif isinstance(node, ast.arg):
                    names.append(node.arg)
                with self.subTest(file=name, line=getattr(node, "lineno", None)):
                    self.assertEqual([], [word for word in names if hasattr(builtins, word) or word[:2] == "__"])


class Interface(unittest.TestCase):

    def test_each_name_is_defined_in_its_file(self):
        files = dict(trees())
        for name, names in INTERFACE.items():
            for word in names:
                with self.subTest(file=name, name=word):
                    self.assertIn(word, defined(files[name].body))

    def test_each_method_is_defined_in_its_class(self):
        files = dict(trees())
        for (name, word), methods in METHODS.items():
            body = [node.body for node in files[name].body if getattr(node, "name", None) == word][0]
            with self.subTest(file=name, name=word):
                self.assertLessEqual(set(methods), set(defined(body)))


if __name__ == "__main__":
    unittest.main()
