"""The names, arguments and places of the interface."""

import ast
import importlib
import inspect
import unittest
from pathlib import Path

import screwsums

PACKAGE = Path(screwsums.__file__).parent

FUNCTIONS = {
    "checks": {"is_integer": ["value"], "is_within": ["value", "least", "most"], "are_integers": ["value"],
               "is_row": ["value", "wide"], "are_rows": ["value", "many", "wide"], "is_by": ["value"],
               "common_divisor": ["values"], "over": ["number", "by"]},
    "papers": {"fixed": ["value"]},
    "faults": {"fault_of": ["wide", "turns", "squares", "gaps"]},
    "motions": {"is_motion": ["frame", "value"], "by_turn": ["frame", "motions"],
                "carried": ["frame", "motion", "shift"]},
    "named": {"named": ["word"], "beside": ["one", "other"]},
    "squares": {"row_times": ["row", "rows"], "vanishing": ["wide", "rows"]},
    "wholes": {"whole": ["rows", "goals"]},
    "returning": {"comes_back": ["frame"], "returns": ["frame", "motion"]},
    "check_returning": {"shows_whole": ["rows", "goals", "value"], "shows_back": ["frame", "value"]},
    "sums": {"still_sum": ["frame", "by"]},
    "tables": {"table_of": ["total"]},
    "determinants": {"determinant": ["total"]},
    "undone": {"undo": ["total"]},
    "check_undone": {"shows_undo": ["total", "value"]},
    "cut": {"cut": ["total"], "cut_right": ["total"]},
    "check_cut": {"shows_cut": ["total", "value"], "shows_cut_right": ["total", "value"]},
    "heights": {"heights": ["frame"], "height": ["frame", "row", "motion"]},
    "levels": {"level": ["frame", "row"]},
    "ladders": {"ladder_of": ["frame"], "sign_of": ["frame", "ladder", "motion"],
                "ascending": ["frame", "ladder", "motions"]},
    "check_ladders": {"shows_ladder": ["frame", "value"]},
    "signwords": {"sign_words": ["frame", "motions", "most"],
                  "shows_sign_words": ["frame", "motions", "most", "value"]},
    "lots": {"meets": ["frame", "one", "other"], "met_once": ["frame", "one", "other"],
             "ends": ["frame", "ladder", "one", "other"]},
    "moved": {"moved": ["frame", "starts"], "moved_motion": ["frame", "starts", "motion"],
              "start_between": ["frame", "other"]},
    "firstsums": {"first_sums": ["frame"]},
    "check_moved": {"shows_moved": ["frame", "other", "value"]},
    "leads": {"merged": ["lead"]},
    "check_leads": {"shows_merged": ["lead", "value"]},
    "screws": {"two_screws": [], "led_screws": ["first", "second"]},
    "shaped": {"shaped": ["heads"], "lack": ["heads"], "heads_fit": ["heads"], "contrary": ["total"],
               "powers": ["by", "many"]},
    "rests": {"rests_of": ["total", "rest"]},
    "undonerests": {"undo_rests": ["total", "rest"]},
    "check_rests": {"shows_undo_rests": ["total", "rest", "value"]},
}
CLASSES = {
    "errors": {name: {"__init__": ["self", "part"]} for name in (
        "BadNumber", "BadFrame", "BadMotion", "BadSum", "BadLot", "BadLead", "BadPaper", "Misfit")}
    | {"ScrewError": {}, "TooMany": {"__init__": ["self", "what", "most"]}},
    "papers": {"Paper": {"__init__": ["self", "word", "parts"], "__eq__": ["self", "other"]},
               "Denial": {"__init__": ["self", "word", "parts"], "__eq__": ["self", "other"]}},
    "faults": {"Fault": {"__init__": ["self", "why", "at"]}},
    "frames": {"Frame": {"__init__": ["self", "wide", "turns", "squares", "gaps"], "__eq__": ["self", "other"],
                         "times": ["self", "one", "other"], "undone": ["self", "motion"],
                         "power": ["self", "motion", "number"], "product": ["self", "motions"]}},
    "wholes": {"Whole": {"__init__": ["self", "numbers"]}, "Barred": {"__init__": ["self", "row", "modulus"]}},
    "returning": {"Back": {"__init__": ["self", "motion", "times"]}, "Away": {"__init__": ["self", "rows"]}},
    "sums": {"Sum": {"__init__": ["self", "frame", "by", "terms"], "__eq__": ["self", "other"],
                     "plus": ["self", "other"], "less": ["self", "other"], "times": ["self", "other"],
                     "scaled": ["self", "number"], "flipped": ["self"], "at_turn": ["self", "turn"]}},
    "undone": {"Undone": {"__init__": ["self", "other"]}, "TwoShifts": {"__init__": ["self", "low", "high"]},
               "Nought": {"__init__": ["self", "other"]}},
    "cut": {"Cut": {"__init__": ["self", "other"]}, "Clear": {"__init__": ["self", "shift"]}},
    "levels": {"Level": {"__init__": ["self", "frame", "shifts", "motions"]}},
    "ladders": {"Ladder": {"__init__": ["self", "steps"]}, "Stuck": {"__init__": ["self", "steps"]}},
    "signwords": {"Words": {"__init__": ["self", "rows"]}, "Free": {"__init__": ["self", "signs"]}},
    "moved": {"Moved": {"__init__": ["self", "starts"]}},
    "leads": {"Lead": {"__init__": ["self", "frame", "other", "square", "motions"], "__eq__": ["self", "other"],
                       "image": ["self", "motion"], "image_sum": ["self", "total"], "after": ["self", "first"]},
              "Merged": {"__init__": ["self", "motion"]}, "Unlike": {"__init__": ["self", "back", "times", "rows"]}},
    "undonerests": {"UndoneRests": {"__init__": ["self", "terms"]}, "NoughtRests": {"__init__": ["self", "terms"]}},
}


def parameters(function):
    return list(inspect.signature(function).parameters)


def defined(module, kind):
    tree = ast.parse((PACKAGE / f"{module}.py").read_text(encoding="ascii"))
    return [node.name for node in tree.body if isinstance(node, kind)]


class InterfaceTest(unittest.TestCase):
    def test_functions(self):
        for module, functions in FUNCTIONS.items():
            for name, names in functions.items():
                with self.subTest(module=module, name=name):
                    self.assertIn(name, defined(module, ast.FunctionDef))
                    function = getattr(importlib.import_module(f"screwsums.{module}"), name)
                    self.assertEqual(parameters(function), names)

    def test_classes_and_their_own_methods(self):
        for module, classes in CLASSES.items():
            for name, methods in classes.items():
                with self.subTest(module=module, name=name):
                    self.assertIn(name, defined(module, ast.ClassDef))
                    made = getattr(importlib.import_module(f"screwsums.{module}"), name)
                    for method, names in methods.items():
                        self.assertIn(method, vars(made))
                        self.assertEqual(parameters(vars(made)[method]), names)


if __name__ == "__main__":
    unittest.main()
