"""The head of the interface: names, arguments, where each is defined; and what the package may use."""

import ast
import inspect
import pathlib
import re
import unittest

import placesay
from placesay import asking, errors, machines, making, sayings

FOLDER = pathlib.Path(placesay.__file__).parent
FILES = sorted(FOLDER.rglob("*.py"))

LISTED = {
    "errors.py": {"SayError": None, "NoName": None, "NoLetter": None, "OtherMarks": None},
    "sayings.py": {"need": ["saying", "letters"], "true_of": ["saying", "word"]},
    "machines.py": {
        "lets_by": ["machine", "row"],
        "turned": ["machine"],
        "joined": ["one", "other", "way"],
        "forgot": ["machine", "kept"],
        "least": ["machine"],
    },
    "asking.py": {"sought": ["machine"], "apart": ["one", "other"]},
    "making.py": {
        "machine_of": ["saying", "letters"],
        "fails": ["saying", "letters"],
        "told_apart": ["one", "other", "letters"],
    },
}

# What reaches outside of the program, or is barred for another reason.
BARRED = ("open", "input", "print", "eval", "exec", "compile", "globals", "vars", "hash", "id", "float")


def trees():
    return [(path, ast.parse(path.read_text(encoding="utf-8"))) for path in FILES]


class Interface(unittest.TestCase):
    def test_each_is_defined_in_its_own_file(self):
        for file_name, names in LISTED.items():
            tree = ast.parse((FOLDER / file_name).read_text(encoding="utf-8"))
            defined = [part.name for part in tree.body if isinstance(part, (ast.FunctionDef, ast.ClassDef))]
            for name in names:
                self.assertEqual(defined.count(name), 1, name)

    def test_arguments(self):
        for module in (errors, sayings, machines, asking, making):
            names = LISTED[module.__name__.rpartition(".")[2] + ".py"]
            for name, arguments in names.items():
                if arguments is not None:
                    told = inspect.signature(getattr(module, name)).parameters
                    self.assertEqual(list(told), arguments)

    def test_arguments_by_name(self):
        saying = ("place", "p", ("letter", "p", "a"))
        self.assertIsNone(sayings.need(saying=saying, letters="ab"))
        self.assertIs(sayings.true_of(saying=saying, word="ab"), True)
        machine = making.machine_of(saying=saying, letters="ab")
        self.assertIs(machines.lets_by(machine=machine, row="ab"), True)
        other = machines.turned(machine=machine)
        both = machines.joined(one=machine, other=other, way="and")
        self.assertEqual(machines.least(machine=both), (("a", "b"), [[0, 0]], [False]))
        self.assertEqual(machines.forgot(machine=both, kept=["c", "c"]), (("c",), [[1], [1]], [False, False]))
        self.assertEqual(asking.sought(machine=other), ("row", []))
        self.assertEqual(asking.apart(one=machine, other=both), ["a"])
        self.assertEqual(making.fails(saying=saying, letters="ab"), "")
        self.assertEqual(making.told_apart(one=saying, other=("not", saying), letters="ab"), "")

    def test_kinds_of_values(self):
        saying = ("place", "p", ("letter", "p", "a"))
        machine = making.machine_of(saying, "ab")
        other = machines.turned(machine)
        for made in (
            machine,
            other,
            machines.joined(machine, other, "or"),
            machines.forgot(machine, ["c", "c"]),
            machines.least(machine),
        ):
            self.assertEqual([type(part) for part in (made, *made)], [tuple, tuple, list, list])
            self.assertEqual({type(row) for row in made[1]}, {list})
            self.assertEqual({type(room) for row in made[1] for room in row}, {int})
            self.assertEqual({type(told) for told in made[2]}, {bool})
        for found in (asking.sought(machine), asking.sought(machines.joined(machine, other, "and"))):
            self.assertEqual([type(part) for part in (found, *found)], [tuple, str, list])
        self.assertEqual(type(asking.apart(machine, other)), list)
        self.assertEqual(type(making.fails(saying, "ab")), str)
        self.assertEqual(type(making.told_apart(saying, ("not", saying), "ab")), str)


class Package(unittest.TestCase):
    def test_it_holds_only_python_files(self):
        for path in FOLDER.rglob("*"):
            if path.name != "__pycache__" and path.parent.name != "__pycache__" and not path.is_dir():
                self.assertRegex(path.name, r"\A[a-z0-9_]+\.py\Z")

    def test_it_imports_only_itself(self):
        for path, tree in trees():
            for part in ast.walk(tree):
                self.assertNotIsInstance(part, ast.Import, path)
                if isinstance(part, ast.ImportFrom):
                    self.assertEqual((part.level, part.module.partition(".")[0]), (0, "placesay"), path)

    def test_it_uses_nothing_from_outside(self):
        for path, tree in trees():
            names = {part.id for part in ast.walk(tree) if isinstance(part, ast.Name)}
            self.assertEqual(names & set(BARRED), set(), path)

    def test_sizes_and_signs(self):
        for path, tree in trees():
            text = path.read_text(encoding="utf-8")
            lines = text.split("\n")
            self.assertLess(len(lines), 400, path)
            self.assertLessEqual(max(len(line) for line in lines), 120, path)
            self.assertIsNone(re.search("[^ -~\n]", text), path)
            for part in ast.walk(tree):
                if isinstance(part, ast.FunctionDef):
                    self.assertLessEqual(part.end_lineno - part.lineno, 39, part.name)


if __name__ == "__main__":
    unittest.main()
