"""The interface, name by name, and what [1] says of the whole program."""

import ast
import importlib
import inspect
import unittest
from pathlib import Path

import radixtrail

FUNCTIONS = {
    "words": {"is_name": ["thing"], "common": ["one", "other"], "rest": ["name", "beginning"]},
    "trees": {"found": ["tree", "name"], "put": ["tree", "name", "number"],
              "without": ["tree", "name"], "ahead": ["tree", "beginning"], "names": ["tree"],
              "knots": ["tree"]},
    "branches": {"cut": ["tree", "beginning"], "joined": ["one", "other"],
                 "moved": ["tree", "beginning", "other"],
                 "copied": ["tree", "beginning", "other"]},
    "asking": {"under": ["tree", "beginning"], "many": ["tree", "beginning"],
               "longest": ["tree", "text"], "after": ["tree", "text"],
               "common_of": ["tree", "beginning"], "next_signs": ["tree", "beginning"]},
    "notes": {"written": ["tree"], "read": ["text"]},
}
METHODS = {"keep": ["name", "number"], "drop": ["name"], "prune": ["beginning"],
           "move": ["beginning", "other"], "graft": ["beginning", "other"], "back": [],
           "told": ["beginning"], "tree": [], "size": []}
NUMBERS = {"words": {"MOST_SIGNS": 40}, "trails": {"MOST_NAMES": 100}}

FOLDER = Path(radixtrail.__file__).parent


def module_of(word):
    return importlib.import_module(f"radixtrail.{word}")


class Interface(unittest.TestCase):
    def takes_by_place(self, function, wanted):
        parameters = list(inspect.signature(function).parameters.values())
        self.assertEqual([parameter.name for parameter in parameters], wanted)
        for parameter in parameters:
            self.assertIs(parameter.kind, inspect.Parameter.POSITIONAL_OR_KEYWORD)
            self.assertIs(parameter.default, inspect.Parameter.empty)

    def test_functions_are_defined_in_their_files(self):
        for file_word, functions in FUNCTIONS.items():
            for word, wanted in functions.items():
                with self.subTest(file=file_word, function=word):
                    function = getattr(module_of(file_word), word)
                    self.assertTrue(inspect.isfunction(function))
                    self.assertEqual(function.__module__, f"radixtrail.{file_word}")
                    self.takes_by_place(function, wanted)

    def test_the_class_and_its_methods_are_defined_in_their_file(self):
        trail = module_of("trails").Trail
        self.assertEqual(trail.__module__, "radixtrail.trails")
        self.assertEqual(list(inspect.signature(trail).parameters), [])
        for word, wanted in METHODS.items():
            with self.subTest(method=word):
                self.assertIn(word, vars(trail))
                self.takes_by_place(vars(trail)[word], ["self"] + wanted)

    def test_numbers(self):
        for file_word, numbers in NUMBERS.items():
            for word, wanted in numbers.items():
                number = getattr(module_of(file_word), word)
                self.assertIs(type(number), int)
                self.assertEqual(number, wanted)


class WholeProgram(unittest.TestCase):
    def test_the_folder_holds_source_files_alone(self):
        words = sorted(path.name for path in FOLDER.iterdir() if path.name != "__pycache__")
        self.assertEqual([word for word in words if not word.endswith(".py")], [])
        for word in list(FUNCTIONS) + ["errors", "trails", "__init__"]:
            self.assertIn(f"{word}.py", words)

    def test_no_clock_no_chance_no_files(self):
        for path in FOLDER.glob("*.py"):
            for step in ast.walk(ast.parse(path.read_text())):
                with self.subTest(file=path.name):
                    self.assertNotIsInstance(step, ast.Import)
                    if isinstance(step, ast.ImportFrom):
                        self.assertTrue(step.module.startswith("radixtrail."))
                    if isinstance(step, ast.Name):
                        self.assertNotIn(step.id, ("open", "input", "print", "id", "hash"))


if __name__ == "__main__":
    unittest.main()
