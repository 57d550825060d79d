"""[0.1]: nothing of the program uses a clock, chance or files; its form is that of LANGUAGE.md."""

import ast
import builtins
import importlib
import inspect
import pathlib
import unittest

PACKAGE = pathlib.Path(__file__).resolve().parent.parent / "clausekeep"
FILES = sorted(path for path in PACKAGE.rglob("*") if "__pycache__" not in path.parts)

# Python's own names that a file may use: none of them reaches a clock, chance or a file.
OWN_NAMES = set("""
    len range enumerate zip min max sum abs sorted reversed int str bool list tuple dict set frozenset isinstance ord
    repr any all divmod Exception ValueError TypeError KeyError IndexError LookupError ZeroDivisionError
    ArithmeticError OverflowError RuntimeError NotImplementedError AttributeError StopIteration
""".split())

# The interface: each name and its arguments, by file.
INTERFACE = {
    "words": {"number_in": ["word"]},
    "formulas": {"written": ["variables", "clauses"], "read": ["text"]},
    "steps": {"shown": ["step"], "step_in": ["line"]},
    "clauses": {"opened": ["truths", "clause"], "has_both": ["clause"], "satisfied": ["clauses", "model"]},
    "following": {"follows": ["table", "clause", "hints"]},
    "checking": {"Keeper": ["variables", "clauses"], "checked": ["variables", "clauses", "steps"]},
    "searching": {"solved": ["variables", "clauses"], "all_models": ["variables", "clauses", "most"]},
    "counting": {"counted": ["variables", "clauses"]},
    "trimming": {"trimmed": ["variables", "clauses", "steps"], "core": ["variables", "clauses", "steps"]},
    "reducing": {"tidy": ["clauses"], "when_true": ["clauses", "literal"], "reduced": ["clauses"],
                 "lifted": ["variables", "literals", "model"], "implied": ["clauses", "clause", "variables"]},
    "books": {"played": ["variables", "lines"]},
}

# What LANGUAGE.md leaves out of the language.
LEFT_OUT = (
    ast.With, ast.Match, ast.Delete, ast.Global, ast.Nonlocal, ast.Assert, ast.Yield, ast.YieldFrom, ast.Await,
    ast.AsyncFunctionDef, ast.AsyncFor, ast.AsyncWith, ast.SetComp, ast.DictComp, ast.GeneratorExp, ast.NamedExpr,
    ast.Starred, ast.Div, ast.TryStar, ast.AnnAssign,
)


def trees():
    for path in FILES:
        yield path.name, ast.parse(path.read_text(encoding="ascii"))


class Whole(unittest.TestCase):
    def test_there_are_files_and_all_are_python(self):
        names = [path.name for path in FILES]
        for name in ("__init__", "errors", *INTERFACE):
            self.assertIn(f"{name}.py", names)
        self.assertEqual([path.suffix for path in FILES], [".py"] * len(FILES))

    def test_only_own_files_are_drawn_from(self):
        for name, tree in trees():
            for node in ast.walk(tree):
                self.assertNotIsInstance(node, ast.Import, name)
                if isinstance(node, ast.ImportFrom):
                    self.assertEqual(node.level, 0, name)
                    self.assertTrue(node.module.startswith("clausekeep."), (name, node.module))

    def test_no_two_files_draw_from_one_another(self):
        drawn_from = {}
        for name, tree in trees():
            modules = [node.module for node in ast.walk(tree) if isinstance(node, ast.ImportFrom)]
            drawn_from[name] = {module.split(".")[1] + ".py" for module in modules}
        while drawn_from:
            free = [name for name, others in drawn_from.items() if not others & set(drawn_from)]
            self.assertTrue(free, drawn_from)
            drawn_from = {name: others for name, others in drawn_from.items() if name not in free}

    def test_only_harmless_names_of_pythons_own(self):
        strange = set(dir(builtins)) - OWN_NAMES
        for name, tree in trees():
            used = {node.id for node in ast.walk(tree) if isinstance(node, ast.Name)}
            self.assertEqual(used & strange, set(), name)

    def test_sizes_and_signs(self):
        for path in FILES:
            text = path.read_text(encoding="ascii")
            lines = text.split("\n")
            self.assertLessEqual(len(lines), 401, path.name)
            self.assertLessEqual(max(len(line) for line in lines), 120, path.name)
            self.assertTrue(all(sign == "\n" or " " <= sign <= "~" for sign in text), path.name)

    def test_functions_are_small(self):
        for name, tree in trees():
            for node in ast.walk(tree):
                if isinstance(node, ast.FunctionDef):
                    self.assertLessEqual(node.end_lineno - node.lineno + 1, 40, (name, node.name))

    def test_only_what_the_language_has(self):
        for name, tree in trees():
            for node in ast.walk(tree):
                self.assertNotIsInstance(node, LEFT_OUT, name)
                if isinstance(node, (ast.For, ast.While)):
                    self.assertEqual(node.orelse, [], name)
                if isinstance(node, ast.ListComp):
                    self.assertEqual(len(node.generators), 1, name)
                    self.assertLessEqual(len(node.generators[0].ifs), 1, name)
                if isinstance(node, ast.Assign):
                    self.assertEqual(len(node.targets), 1, name)
                    self.assertNotIsInstance(node.targets[0], (ast.Tuple, ast.List), name)

    def test_the_interface(self):
        for name, wanted in INTERFACE.items():
            module = importlib.import_module(f"clausekeep.{name}")
            for part, arguments in wanted.items():
                self.assertEqual(list(inspect.signature(getattr(module, part)).parameters), arguments, part)
        take = importlib.import_module("clausekeep.checking").Keeper.take
        self.assertEqual(list(inspect.signature(take).parameters), ["self", "step"])
