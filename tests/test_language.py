"""The plainest rules of the language that the package is written in, and its interface."""

import ast
import inspect
import string
import unittest
import warnings
from pathlib import Path

from onebreath import halls, notes, orders, plans, rounds, running

PACKAGE = Path(__file__).resolve().parent.parent / "onebreath"
FILES = sorted(PACKAGE.glob("**/*.py"))
LIBRARY = {
    "__future__": {"annotations"},
    "heapq": {"heappush", "heappop", "heapify", "heapreplace", "heappushpop"},
    "math": {"gcd", "lcm", "isqrt", "comb", "perm", "factorial"},
    "itertools": {
        "product", "combinations", "permutations", "chain", "accumulate", "pairwise", "islice", "zip_longest",
    },
    "collections": {"defaultdict"},
}
INTERFACE = {
    running: {"beats": ["world", "rule", "many"], "ends": ["world", "rule"], "waits": ["world", "rule"]},
    rounds: {"after": ["world", "rule", "many"], "period": ["world", "rule"]},
    plans: {"judged": ["world", "plan"], "fewest": ["world"], "floors": ["world"]},
    orders: {"need_of": ["world", "machine"], "order": ["world"], "least_start": ["world"]},
    halls: {"Breath": ["store", "rule"], "again": ["store", "rule", "deeds"]},
    notes: {"written": ["world"], "read": ["text"]},
}
METHODS = {
    "enter": ["steps"], "tick": [], "pause": ["number"], "go": ["number"], "lend": ["many"], "back": ["many"],
    "merge": ["store"], "standing": [], "deeds": [], "stock": [],
}


class LanguageTest(unittest.TestCase):
    def trees(self):
        for path in FILES:
            with self.subTest(path.name):
                yield path, ast.parse(path.read_text(encoding="utf-8"))

    def test_the_folder_holds_nothing_else(self):
        others = [path for path in PACKAGE.iterdir() if path.name != "__pycache__" and path not in FILES]
        self.assertEqual(others, [])

    def test_characters_and_sizes(self):
        plain = set(string.printable) - set("\t\r\x0b\x0c")
        for path in FILES:
            text = path.read_text(encoding="utf-8")
            with self.subTest(path.name):
                self.assertEqual(set(text) - plain, set())
                rows = text.split("\n")
                self.assertLessEqual(len(rows), 399)
                self.assertLessEqual(max([len(row) for row in rows]), 120)

    def test_python_gives_no_warning(self):
        for path in FILES:
            with self.subTest(path.name), warnings.catch_warnings():
                warnings.simplefilter("error")
                compile(path.read_text(encoding="utf-8"), str(path), "exec")

    def test_functions_are_short(self):
        for _, tree in self.trees():
            for node in ast.walk(tree):
                if isinstance(node, ast.FunctionDef):
                    self.assertLessEqual(node.end_lineno - node.lineno + 1, 40, node.name)

    def test_imports(self):
        for _, tree in self.trees():
            for node in ast.walk(tree):
                self.assertNotIsInstance(node, ast.Import)
                if isinstance(node, ast.ImportFrom) and node.module.split(".")[0] != "onebreath":
                    self.assertLessEqual({name.name for name in node.names}, LIBRARY.get(node.module, set()))

    def test_each_name_comes_from_the_file_that_defines_it(self):
        defined = {}
        for path, tree in self.trees():
            names = set()
            for node in tree.body:
                if isinstance(node, (ast.FunctionDef, ast.ClassDef)):
                    names.add(node.name)
                elif isinstance(node, ast.Assign):
                    names.add(node.targets[0].id)
            defined["onebreath." + path.stem] = names
        for _, tree in self.trees():
            for node in tree.body:
                if isinstance(node, ast.ImportFrom) and node.module in defined:
                    self.assertLessEqual({name.name for name in node.names}, defined[node.module])

    def test_interface(self):
        for module, functions in INTERFACE.items():
            for name, words in functions.items():
                with self.subTest(name):
                    function = getattr(module, name)
                    self.assertEqual(function.__module__, module.__name__)
                    self.assertEqual(list(inspect.signature(function).parameters), words)

    def test_methods_stand_in_the_class_itself(self):
        for name, words in METHODS.items():
            with self.subTest(name):
                method = vars(halls.Breath)[name]
                self.assertEqual(list(inspect.signature(method).parameters), ["self"] + words)

    def test_no_two_files_import_from_each_other(self):
        wanted = {}
        for path, tree in self.trees():
            froms = [node.module for node in tree.body if isinstance(node, ast.ImportFrom)]
            wanted["onebreath." + path.stem] = {name for name in froms if name.startswith("onebreath.")}
        while wanted:
            free = [name for name, needs in wanted.items() if not needs & set(wanted)]
            self.assertNotEqual(free, [], wanted)
            for name in free:
                del wanted[name]


if __name__ == "__main__":
    unittest.main()
