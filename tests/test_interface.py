"""The head of the interface: names, arguments, where each is defined; and what the package may use."""

import ast
import inspect
import pathlib
import re
import unittest

import placesay
from placesay import errors, sayings

FOLDER = pathlib.Path(placesay.__file__).parent
FILES = sorted(FOLDER.rglob("*.py"))

LISTED = {
    "errors.py": {"SayError": None, "NoName": None, "NoLetter": None, "OtherMarks": None},
    "sayings.py": {"need": ["saying", "letters"], "true_of": ["saying", "word"]},
}

# What reaches outside of the program, or is barred for another reason.
BARRED = ("open", "input", "print", "eval", "exec", "compile", "globals", "vars", "hash", "id", "float")


def trees():
    return [(path, ast.parse(path.read_text(encoding="utf-8"))) for path in FILES]


class Interface(unittest.TestCase):
    def test_each_is_defined_in_its_own_file(self):
        for file_name, names in LISTED.items():
            tree = ast.parse((FOLDER / file_name).read_text(encoding="utf-8"))
            defined = [part.name for part in tree.body if isinstance(part, (ast.FunctionDef, ast.ClassDef))]
            for name in names:
                self.assertEqual(defined.count(name), 1, name)

    def test_arguments(self):
        for module in (errors, sayings):
            names = LISTED[module.__name__.rpartition(".")[2] + ".py"]
            for name, arguments in names.items():
                if arguments is not None:
                    told = inspect.signature(getattr(module, name)).parameters
                    self.assertEqual(list(told), arguments)

    def test_arguments_by_name(self):
        saying = ("place", "p", ("letter", "p", "a"))
        self.assertIsNone(sayings.need(saying=saying, letters="ab"))
        self.assertIs(sayings.true_of(saying=saying, word="ab"), True)


class Package(unittest.TestCase):
    def test_it_holds_only_python_files(self):
        for path in FOLDER.rglob("*"):
            if path.name != "__pycache__" and path.parent.name != "__pycache__" and not path.is_dir():
                self.assertRegex(path.name, r"\A[a-z0-9_]+\.py\Z")

    def test_it_imports_only_itself(self):
        for path, tree in trees():
            for part in ast.walk(tree):
                self.assertNotIsInstance(part, ast.Import, path)
                if isinstance(part, ast.ImportFrom):
                    self.assertEqual((part.level, part.module.partition(".")[0]), (0, "placesay"), path)

    def test_it_uses_nothing_from_outside(self):
        for path, tree in trees():
            names = {part.id for part in ast.walk(tree) if isinstance(part, ast.Name)}
            self.assertEqual(names & set(BARRED), set(), path)

    def test_sizes_and_signs(self):
        for path, tree in trees():
            text = path.read_text(encoding="utf-8")
            lines = text.split("\n")
            self.assertLess(len(lines), 400, path)
            self.assertLessEqual(max(len(line) for line in lines), 120, path)
            self.assertIsNone(re.search("[^ -~\n]", text), path)
            for part in ast.walk(tree):
                if isinstance(part, ast.FunctionDef):
                    self.assertLessEqual(part.end_lineno - part.lineno, 39, part.name)


if __name__ == "__main__":
    unittest.main()
