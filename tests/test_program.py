"""What the document promises over the whole program."""

import ast
import importlib
import inspect
import random
import unittest

from screwsums.check_ladders import shows_ladder
from screwsums.check_leads import shows_merged
from screwsums.check_rests import shows_undo_rests
from screwsums.check_returning import shows_back
from screwsums.errors import ScrewError
from screwsums.ladders import Stuck, ladder_of
from screwsums.leads import merged
from screwsums.papers import Denial, Paper, fixed
from screwsums.rests import rests_of
from screwsums.returning import comes_back, returns
from screwsums.screws import led_screws, two_screws
from screwsums.shaped import contrary, heads_fit, powers, shaped
from screwsums.sums import still_sum
from screwsums.undonerests import UndoneRests, undo_rests
from tests.plain import PRIMES, motion_of
from tests.test_interface import CLASSES, FUNCTIONS, PACKAGE

HELPERS = {"__init__", "shifts", "packing", "minors", "steps"}
PAPERS = {
    "wholes": {"Whole": ["numbers"]}, "returning": {"Back": ["motion", "times"]},
    "undone": {"Undone": ["other"]}, "cut": {"Cut": ["other"]}, "levels": {"Level": ["frame", "shifts", "motions"]},
    "ladders": {"Ladder": ["steps"]}, "signwords": {"Words": ["rows"]}, "moved": {"Moved": ["starts"]},
    "leads": {"Merged": ["motion"]}, "undonerests": {"UndoneRests": ["terms"]},
}
DENIALS = {
    "faults": {"Fault": ["why", "at"]}, "wholes": {"Barred": ["row", "modulus"]}, "returning": {"Away": ["rows"]},
    "undone": {"TwoShifts": ["low", "high"], "Nought": ["other"]}, "cut": {"Clear": ["shift"]},
    "ladders": {"Stuck": ["steps"]}, "signwords": {"Free": ["signs"]}, "leads": {"Unlike": ["back", "times", "rows"]},
    "undonerests": {"NoughtRests": ["terms"]},
}
ANY_VALUES = (None, True, 0, -7, "word", b"ab", object(), [], [[1, [2]], (3, [])], {"a": [1]}, Paper, Denial("no", [1]), 1.5)


def modules():
    return [importlib.import_module(f"screwsums.{path.stem}") for path in sorted(PACKAGE.glob("*.py"))]


def classes(kinds):
    for module, names in kinds.items():
        for name, fields in names.items():
            yield getattr(importlib.import_module(f"screwsums.{module}"), name), name, fields


class PlacesTest(unittest.TestCase):
    def test_modules(self):
        held = {path.stem for path in PACKAGE.glob("*.py")}
        self.assertEqual(held, HELPERS | set(FUNCTIONS) | set(CLASSES))
        self.assertEqual(len(held - HELPERS), 34)
        self.assertEqual(ast.parse((PACKAGE / "__init__.py").read_text(encoding="ascii")).body[1:], [])

    def test_no_errors_beside(self):
        for module in modules():
            for name, worth in vars(module).items():
                if inspect.isclass(worth) and issubclass(worth, Exception):
                    self.assertTrue(issubclass(worth, ScrewError))
                    self.assertEqual(worth.__module__, "screwsums.errors")


class PapersTest(unittest.TestCase):
    def test_all_classes_of_papers(self):
        told = {name for kinds in (PAPERS, DENIALS) for _, name, _ in classes(kinds)}
        found = set()
        for module in modules():
            found |= {worth.__name__ for worth in vars(module).values() if inspect.isclass(worth) and issubclass(worth, Paper)}
        self.assertEqual(found, told | {"Paper", "Denial"})
        self.assertEqual(len(told), 20)

    def test_which_are_denials(self):
        for made, name, _ in classes(PAPERS):
            self.assertTrue(issubclass(made, Paper) and not issubclass(made, Denial), name)
        for made, name, _ in classes(DENIALS):
            self.assertTrue(issubclass(made, Denial), name)

    def test_any_values_by_place_and_by_name(self):
        random.seed(1)
        for kinds, truth in ((PAPERS, True), (DENIALS, False)):
            for made, name, fields in classes(kinds):
                for value in ANY_VALUES:
                    parts = [value] + [random.choice(ANY_VALUES) for _ in fields[1:]]
                    for paper in (made(*parts), made(**dict(zip(fields, parts)))):
                        self.assertEqual(paper.word, name.lower())
                        self.assertEqual(paper.parts, tuple(fixed(part) for part in parts))
                        self.assertEqual([getattr(paper, field) for field in fields], list(paper.parts))
                        self.assertIs(bool(paper), truth)
                        self.assertTrue(paper == made(*parts))
                        self.assertFalse(paper != made(*parts))
                        self.assertFalse(paper == (Paper if truth else Denial)(name.lower(), *parts))
                        self.assertFalse(paper == value)
                for wrong in ([], [None] * (len(fields) + 1)):
                    with self.assertRaises(TypeError):
                        made(*wrong)

    def test_unlike_classes_are_unlike(self):
        every = [(made, fields) for kinds in (PAPERS, DENIALS) for made, _, fields in classes(kinds)]
        for one, fields in every:
            for other, further in every:
                if one is not other and len(fields) == len(further):
                    self.assertIs(one(*[(1,)] * len(fields)) == other(*[(1,)] * len(fields)), False)


class TwoScrewsTest(unittest.TestCase):
    def test_no_motion_comes_back(self):
        screws = two_screws()
        paper = comes_back(screws)
        self.assertEqual((paper.word, shows_back(screws, paper)), ("away", True))
        random.seed(2)
        for _ in range(100):
            motion = motion_of(screws, 3)
            self.assertEqual(returns(screws, motion), int(motion == screws.still))

    def test_no_ladder_stands(self):
        screws = two_screws()
        self.assertTrue(ladder_of(screws) == Stuck(()))
        self.assertIs(shows_ladder(screws, Stuck([])), True)

    def test_shapes_are_undone_and_led_on(self):
        random.seed(3)
        screws = two_screws()
        for by, many in ((2, 1), (2, 2), (3, 1), (5, 1), (2, 3), (7, 1)):
            heads = powers(by, many)
            self.assertIs(heads_fit(heads), True)
            one, still = shaped(heads), still_sum(screws, by)
            other = contrary(one)
            self.assertGreater(len(one.terms), 20)
            for _ in range(3):
                self.assertTrue(one.times(other) == still)
                self.assertTrue(other.times(one) == still)
                shifts = [tuple(random.randint(-2, 2) for _ in range(3)) for _ in range(2)]
                lead = led_screws(*shifts)
                self.assertIs(shows_merged(lead, merged(lead)), True)
                one, other = lead.image_sum(one), lead.image_sum(other)
            self.assertTrue(one.flipped().times(other.flipped()) == still)
            self.assertTrue(undo_rests(one, 2) == UndoneRests(rests_of(other, 2)))
            self.assertIs(shows_undo_rests(one, 2, UndoneRests(rests_of(other, 2))), True)

    def test_heads_that_do_not_fit(self):
        screws = two_screws()
        for by in PRIMES[1:]:
            heads = powers(by, 1).scaled(2)
            self.assertIs(heads_fit(heads), False)
            one = shaped(heads)
            self.assertFalse(one.times(contrary(one)) == still_sum(screws, by))


if __name__ == "__main__":
    unittest.main()
