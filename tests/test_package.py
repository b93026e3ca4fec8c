"""That the package uses nothing from outside, keeps nothing, and has no file that is too long."""

import ast
import copy
import importlib
import pathlib
import unittest

from loopmover import moving, notes, rows, running

FOLDER = pathlib.Path(__file__).resolve().parent.parent / "loopmover"
FILES = sorted(path for path in FOLDER.rglob("*") if path.is_file() and "__pycache__" not in path.parts)
LIBRARY = ("heapq", "math", "itertools", "collections")
WORLD = ("open", "input", "print", "exec", "eval", "compile", "globals", "locals", "vars", "breakpoint", "__import__")


def trees():
    return [(path, ast.parse(path.read_text("utf-8"))) for path in FILES]


class Outside(unittest.TestCase):
    def test_there_are_only_python_files(self):
        self.assertIn(FOLDER / "__init__.py", FILES)
        for path in FILES:
            self.assertEqual(path.suffix, ".py")

    def test_imports_come_from_the_package(self):
        for path, tree in trees():
            for node in ast.walk(tree):
                self.assertNotIsInstance(node, ast.Import, path.name)
                if isinstance(node, ast.ImportFrom):
                    with self.subTest(file=path.name, module=node.module):
                        self.assertEqual(node.level, 0)
                        self.assertTrue(node.module.startswith("loopmover.") or node.module in LIBRARY)

    def test_no_clock_chance_or_files(self):
        for path, tree in trees():
            names = [node.id for node in ast.walk(tree) if isinstance(node, ast.Name)]
            with self.subTest(file=path.name):
                self.assertEqual([name for name in names if name in WORLD], [])


class Kept(unittest.TestCase):
    def test_no_call_changes_what_stands_in_a_module(self):
        modules = (rows, running, moving, notes)
        before = copy.deepcopy([self.values(module) for module in modules])
        program = [("let", "x", "/", "a", 1), ("loop", "b", [("say", "c"), ("let", "d", "+", 1, 1)])]
        for call in (rows.checked, rows.reads, rows.sets, rows.may_fail, rows.speaks, moving.moved, moving.parted):
            call(program)
        running.run(program, {"b": 1}, 50)
        notes.read(notes.told(program))
        self.assertEqual([self.values(module) for module in modules], before)

    def values(self, module):
        plain = (int, str, tuple, list, dict)
        return {name: worth for name, worth in vars(module).items()
                if isinstance(worth, plain) and not name.startswith("__")}

    def test_no_function_names_a_global(self):
        for path, tree in trees():
            for node in ast.walk(tree):
                self.assertNotIsInstance(node, ast.Global, path.name)


class Size(unittest.TestCase):
    def test_files_and_lines(self):
        for path in FILES:
            text = path.read_text("utf-8")
            with self.subTest(file=path.name):
                self.assertLessEqual(len(text.splitlines()), 399)
                self.assertLessEqual(max([0] + [len(line) for line in text.splitlines()]), 120)
                self.assertTrue(all(sign == "\n" or " " <= sign <= "~" for sign in text))

    def test_functions(self):
        for path, tree in trees():
            for node in ast.walk(tree):
                if isinstance(node, ast.FunctionDef):
                    with self.subTest(file=path.name, function=node.name):
                        self.assertLessEqual(node.end_lineno - node.lineno + 1, 40)

    def test_each_file_can_be_imported(self):
        for path in FILES:
            importlib.import_module(f"loopmover.{path.stem}")


if __name__ == "__main__":
    unittest.main()
