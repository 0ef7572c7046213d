import ast
import pathlib
import unittest

import soonsaid
from soonsaid.plans import Plan

FOLDER = pathlib.Path(soonsaid.__file__).parent

FUNCTIONS = {
    "statements": {"is_mark": ["thing"], "is_statement": ["thing"], "looks_ahead": ["statement"],
                   "is_mixed": ["statement"], "wishes_in": ["statement"], "pasts_in": ["statement"],
                   "marks_in": ["statement"], "need_told": ["statement"]},
    "meaning": {"holds": ["statement", "run", "at"]},
    "plans": {"begun": ["plan"], "stepped": ["plan", "state", "mark"], "is_met": ["state"]},
    "goings": {"reached": ["plan", "state"], "verdict": ["plan", "state"], "going": ["plan", "state", "wanted"]},
    "notes": {"written": ["statement"], "read": ["text"]},
}
CLASSES = {
    "errors": {name: {} for name in ["SaidError", "BadStatement", "Mixed", "TooMany", "BadMark", "NoMark", "BadText"]},
    "plans": {"Plan": {"__init__": ["statement"]}},
    "tellers": {"Teller": {"__init__": ["statement"], "tell": ["mark"], "said": [], "row": [], "end": [], "ways": []}},
}


def arguments(function):
    return [argument.arg for argument in function.args.args]


class Interface(unittest.TestCase):
    def defined(self, file, kind):
        """What is defined under its name at the top of that file."""
        tree = ast.parse((FOLDER / (file + ".py")).read_text())
        return {row.name: row for row in tree.body if isinstance(row, kind)}

    def test_functions_and_their_arguments(self):
        for file, wanted in FUNCTIONS.items():
            found = self.defined(file, ast.FunctionDef)
            for name, names in wanted.items():
                with self.subTest(name):
                    self.assertEqual(arguments(found[name]), names)
                    self.assertEqual(found[name].args.defaults, [])

    def test_classes_and_their_methods(self):
        for file, wanted in CLASSES.items():
            found = self.defined(file, ast.ClassDef)
            for name, methods in wanted.items():
                with self.subTest(name):
                    rows = {row.name: row for row in found[name].body if isinstance(row, ast.FunctionDef)}
                    for method, names in methods.items():
                        self.assertEqual(arguments(rows[method]), ["self"] + names)

    def test_the_fields_of_a_plan_are_set_when_it_is_created(self):
        found = vars(Plan(("next", ("before", ("mark", "a")))))
        for name in ["wishes", "pasts", "marks", "weights"]:
            self.assertIs(type(found[name]), list, name)
