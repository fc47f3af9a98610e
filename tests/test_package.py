"""What the files of the package use: no clock, no chance, no files; and their form."""

import ast
import builtins
import unittest
from pathlib import Path

FOLDER = Path(__file__).resolve().parent.parent / "lemmaless"
FILES = sorted(FOLDER.glob("*.py"))

# Builtins that neither read nor write, and are of the subset that the program is written in.
PLAIN_BUILTINS = {
    "len", "range", "enumerate", "zip", "min", "max", "sum", "abs", "sorted", "reversed", "int",
    "str", "bool", "list", "tuple", "dict", "set", "isinstance", "any", "all", "ValueError",
    "KeyError",
}

# What the interface lists for each file, and the arguments of its functions.
LISTED = {
    "errors.py": ["LineError", "BadFormula", "BadClaim", "BadChain", "NoLemma"],
    "formulas.py": ["is_formula", "parts", "truth"],
    "claims.py": ["is_claim", "alike", "holds"],
    "rules.py": ["wanted"],
    "chains.py": ["wrong_line", "lemma_lines"],
    "search.py": ["decided"],
    "taking.py": ["step", "taken_out"],
}
ARGUMENTS = {
    "is_formula": ["thing"], "parts": ["f"], "truth": ["f", "world"], "is_claim": ["thing"],
    "alike": ["one", "other"], "holds": ["claim", "world"], "wanted": ["claim", "rule"],
    "wrong_line": ["lines"], "lemma_lines": ["chain"], "decided": ["claim"], "step": ["chain"],
    "taken_out": ["chain"],
}


def told_trees():
    return [(file, ast.parse(file.read_text(encoding="utf-8"))) for file in FILES]


class PackageTest(unittest.TestCase):
    def test_there_are_files(self):
        names = [file.name for file in FILES]
        for name in ("__init__.py", *LISTED):
            self.assertIn(name, names)

    def test_there_is_nothing_else_in_the_folder(self):
        for path in FOLDER.iterdir():
            self.assertTrue(path.suffix == ".py" or path.name == "__pycache__", path)

    def test_imports_only_from_the_package(self):
        for file, tree in told_trees():
            for node in ast.walk(tree):
                self.assertNotIsInstance(node, ast.Import, file)
                if isinstance(node, ast.ImportFrom):
                    self.assertEqual(node.level, 0, file)
                    self.assertEqual(node.module.split(".")[0], "lemmaless", file)

    def test_uses_no_builtin_that_reaches_outside(self):
        for file, tree in told_trees():
            for node in ast.walk(tree):
                if isinstance(node, ast.Name) and hasattr(builtins, node.id):
                    self.assertIn(node.id, PLAIN_BUILTINS, (file, node.lineno))

    def test_the_sizes(self):
        for file, tree in told_trees():
            rows = file.read_text(encoding="utf-8").splitlines()
            self.assertLessEqual(len(rows), 399, file)
            for at, row in enumerate(rows, start=1):
                self.assertLessEqual(len(row), 120, (file, at))
                self.assertTrue(all(" " <= letter <= "~" for letter in row), (file, at))
            for node in ast.walk(tree):
                if isinstance(node, ast.FunctionDef):
                    self.assertLessEqual(node.end_lineno - node.lineno + 1, 40, (file, node.name))

    def test_each_name_is_defined_in_its_file(self):
        trees = {file.name: tree for file, tree in told_trees()}
        for name, words in LISTED.items():
            defined = [
                node.name for node in trees[name].body
                if isinstance(node, (ast.FunctionDef, ast.ClassDef))
            ]
            for word in words:
                self.assertIn(word, defined, name)

    def test_the_arguments(self):
        trees = {file.name: tree for file, tree in told_trees()}
        for name, words in LISTED.items():
            found = {node.name: node for node in trees[name].body
                     if isinstance(node, ast.FunctionDef)}
            for word in words:
                if word in ARGUMENTS:
                    told = [argument.arg for argument in found[word].args.args]
                    self.assertEqual(told, ARGUMENTS[word], word)


if __name__ == "__main__":
    unittest.main()
