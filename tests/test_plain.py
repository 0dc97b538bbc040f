"""Point 1, last sentence: no clock, chance or files; and the sizes that the language allows."""

import ast
import pathlib
import unittest
import warnings

ROOT = pathlib.Path(__file__).resolve().parent.parent
FILES = sorted((ROOT / "borrowdesk").rglob("*.py"))
OUTER = {"heapq", "math", "itertools", "collections", "__future__"}
BARRED = {"open", "input", "exec", "eval", "compile", "globals", "locals", "vars", "print", "hash", "id"}


def trees():
    return [(file, ast.parse(file.read_text())) for file in FILES]


def imported(tree):
    for node in ast.walk(tree):
        if isinstance(node, ast.Import):
            yield from [alias.name for alias in node.names]
        elif isinstance(node, ast.ImportFrom):
            yield "." * node.level + (node.module or "")


class NothingFromOutside(unittest.TestCase):
    def test_there_are_files_to_look_at(self):
        self.assertGreaterEqual(len(FILES), 7)

    def test_only_the_package_and_plain_tools_are_imported(self):
        for file, tree in trees():
            for name in imported(tree):
                with self.subTest(file=file.name, name=name):
                    self.assertTrue(name in OUTER or name.startswith("borrowdesk."))

    def test_no_builtin_that_reaches_outside_is_named(self):
        for file, tree in trees():
            named = {node.id for node in ast.walk(tree) if isinstance(node, ast.Name)}
            self.assertEqual(named & BARRED, set(), file.name)


class Sizes(unittest.TestCase):
    def test_signs_and_lengths(self):
        for file in FILES:
            text = file.read_text()
            self.assertTrue(all(sign == "\n" or " " <= sign <= "~" for sign in text), file.name)
            self.assertLessEqual(text.count("\n"), 399, file.name)
            self.assertLessEqual(max(len(line) for line in text.split("\n")), 120, file.name)

    def test_functions_have_at_most_forty_lines(self):
        for file, tree in trees():
            for node in ast.walk(tree):
                if isinstance(node, ast.FunctionDef):
                    self.assertLessEqual(node.end_lineno - node.lineno + 1, 40, (file.name, node.name))

    def test_python_warns_of_nothing(self):
        with warnings.catch_warnings():
            warnings.simplefilter("error")
            for file in FILES:
                compile(file.read_text(), str(file), "exec")


class Interface(unittest.TestCase):
    def test_each_name_is_defined_in_its_file(self):
        listed = {
            "errors.py": {"DeskError", "NoRow", "NoBlock", "NoWord", "Taken", "Narrow", "NoEnd"},
            "blocks.py": {"homes", "ends", "branches"},
            "forms.py": {"checked"},
            "runs.py": {"ways", "stepped", "account"},
            "faults.py": {"awake", "fault"},
            "looking.py": {"looked"},
        }
        told = {file.name: tree for file, tree in trees()}
        for name, wanted in listed.items():
            defined = {
                node.name for node in told[name].body if isinstance(node, (ast.FunctionDef, ast.ClassDef))
            }
            self.assertLessEqual(wanted, defined, name)


if __name__ == "__main__":
    unittest.main()
