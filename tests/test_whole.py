"""[0.1]: nothing of the program uses a clock, chance or files; its form is that of LANGUAGE.md."""

import ast
import builtins
import pathlib
import unittest

PACKAGE = pathlib.Path(__file__).resolve().parent.parent / "clausekeep"
FILES = sorted(path for path in PACKAGE.rglob("*") if "__pycache__" not in path.parts)

# Python's own names that a file may use: none of them reaches a clock, chance or a file.
OWN_NAMES = set("""
    len range enumerate zip min max sum abs sorted reversed int str bool list tuple dict set frozenset isinstance ord
    repr any all divmod Exception ValueError TypeError KeyError IndexError LookupError ZeroDivisionError
    ArithmeticError OverflowError RuntimeError NotImplementedError AttributeError StopIteration
""".split())


def trees():
    for path in FILES:
        yield path.name, ast.parse(path.read_text(encoding="ascii"))


class Whole(unittest.TestCase):
    def test_there_are_files_and_all_are_python(self):
        names = [path.name for path in FILES]
        for name in ("__init__.py", "errors.py", "words.py", "formulas.py", "clauses.py"):
            self.assertIn(name, names)
        self.assertEqual([path.suffix for path in FILES], [".py"] * len(FILES))

    def test_only_own_files_are_drawn_from(self):
        for name, tree in trees():
            for node in ast.walk(tree):
                self.assertNotIsInstance(node, ast.Import, name)
                if isinstance(node, ast.ImportFrom):
                    self.assertEqual(node.level, 0, name)
                    self.assertTrue(node.module.startswith("clausekeep."), (name, node.module))

    def test_only_harmless_names_of_pythons_own(self):
        strange = set(dir(builtins)) - OWN_NAMES
        for name, tree in trees():
            used = {node.id for node in ast.walk(tree) if isinstance(node, ast.Name)}
            self.assertEqual(used & strange, set(), name)

    def test_sizes_and_signs(self):
        for path in FILES:
            text = path.read_text(encoding="ascii")
            lines = text.split("\n")
            self.assertLessEqual(len(lines), 401, path.name)
            self.assertLessEqual(max(len(line) for line in lines), 120, path.name)
            self.assertTrue(all(sign == "\n" or " " <= sign <= "~" for sign in text), path.name)

    def test_functions_are_small(self):
        for name, tree in trees():
            for node in ast.walk(tree):
                if isinstance(node, ast.FunctionDef):
                    self.assertLessEqual(node.end_lineno - node.lineno + 1, 40, (name, node.name))
