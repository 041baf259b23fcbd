"""[1], the interface, and the plainest rules of the language."""

import ast
import inspect
import pathlib
import unittest

from pushdoors import errors, far, fitting, keepers, notes, rounds, walking
from tests.support import CALLS, HOUSES, NESTED, WRONG_CALLS

FOLDER = pathlib.Path(walking.__file__).parent
INTERFACE = {
    errors: {"DoorError", "BadHouse", "BadCount", "NoName", "NoDoor", "BadDeed", "BadText"},
    walking: {"fates"},
    far: {"fate", "leaving", "named", "after", "left", "pushed"},
    rounds: {"round_of", "mean", "parted"},
    fitting: {"fitted"},
    keepers: {"Keeper", "again"},
    notes: {"written", "read"},
}
PARAMETERS = {
    walking.fates: ["house", "many"],
    far.fate: ["house", "walker"],
    far.leaving: ["house", "number"],
    far.named: ["house", "name", "number"],
    far.after: ["house", "many"],
    far.left: ["house", "many"],
    far.pushed: ["house", "path", "number"],
    rounds.round_of: ["house"],
    rounds.mean: ["house"],
    rounds.parted: ["one", "other"],
    fitting.fitted: ["house", "number", "walker"],
    keepers.Keeper: ["house"],
    keepers.again: ["house", "deeds"],
    notes.written: ["house"],
    notes.read: ["text"],
}
METHODS = {
    "walk": ["self"],
    "send": ["self", "many"],
    "renew": ["self", "path", "need"],
    "turn": ["self", "path", "hand"],
    "shut": ["self", "path"],
    "unlatch": ["self", "path"],
    "house": ["self"],
    "counts": ["self"],
    "deeds": ["self"],
}
LIBRARY = {"math": {"gcd", "lcm"}}


class Interface(unittest.TestCase):
    def test_each_name_is_defined_in_its_own_file(self):
        for module, names in INTERFACE.items():
            tree = ast.parse(pathlib.Path(module.__file__).read_text())
            defined = {node.name for node in tree.body if isinstance(node, (ast.FunctionDef, ast.ClassDef))}
            self.assertLessEqual(names, defined, module.__name__)

    def test_the_arguments_have_their_names(self):
        for function, names in PARAMETERS.items():
            self.assertEqual(list(inspect.signature(function).parameters), names)

    def test_the_keeper_has_its_methods_itself(self):
        for word, names in METHODS.items():
            self.assertEqual(list(inspect.signature(vars(keepers.Keeper)[word]).parameters), names)

    def test_the_kinds_of_what_is_told(self):
        kinds = {"fates": list, "fate": tuple, "after": tuple, "left": int, "leaving": tuple, "named": tuple,
                 "pushed": int, "round_of": tuple, "mean": tuple, "parted": int, "parted from": int, "fitted": tuple,
                 "Keeper": keepers.Keeper, "again": keepers.Keeper, "written": str}
        house = (0, ((1, 0, "a"),))
        for word, call in CALLS.items():
            self.assertIs(type(call(house)), kinds[word], word)


class Kept(unittest.TestCase):
    def test_what_is_handed_in_is_not_changed(self):
        for house in HOUSES:
            before = repr(house)
            for call in list(CALLS.values()) + list(WRONG_CALLS.values()):
                try:
                    call(house)
                except errors.DoorError:
                    pass
                self.assertEqual(repr(house), before)

    def test_what_is_told_may_be_changed(self):
        told = walking.fates(NESTED, 5)
        copy = list(told)
        told.clear()
        told.append("changed")
        self.assertEqual(walking.fates(NESTED, 5), copy)


class Language(unittest.TestCase):
    def sources(self):
        for path in sorted(FOLDER.glob("*.py")):
            yield path.name, path.read_text(encoding="utf-8")

    def test_the_folder_holds_plain_files_alone(self):
        for path in FOLDER.iterdir():
            self.assertTrue(path.suffix == ".py" or path.name == "__pycache__", path.name)
        self.assertTrue((FOLDER / "__init__.py").exists())

    def test_sizes_and_characters(self):
        for name, text in self.sources():
            lines = text.split("\n")
            self.assertLessEqual(len(lines), 400, name)
            for number, line in enumerate(lines, 1):
                self.assertLessEqual(len(line), 120, (name, number))
                self.assertTrue(all(" " <= letter <= "~" for letter in line), (name, number))
            for node in ast.walk(ast.parse(text)):
                if isinstance(node, ast.FunctionDef):
                    self.assertLessEqual(node.end_lineno - node.lineno + 1, 40, (name, node.name))

    def test_imports_come_from_the_package_and_few_from_the_library(self):
        for name, text in self.sources():
            for node in ast.walk(ast.parse(text)):
                self.assertNotIsInstance(node, ast.Import, name)
                if isinstance(node, ast.ImportFrom):
                    names = {alias.name for alias in node.names}
                    plain = node.module.startswith("pushdoors.") or names <= LIBRARY.get(node.module, set())
                    self.assertTrue(plain, (name, node.lineno))


if __name__ == "__main__":
    unittest.main()
