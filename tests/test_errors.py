import copy
import unittest

from screwsums import errors
from screwsums.errors import ScrewError, TooMany

PARTS = ("BadNumber", "BadFrame", "BadMotion", "BadSum", "BadLot", "BadLead", "BadPaper", "Misfit")
VALUES = ("wide", "", 0, -7, 10 ** 40, True, None, [1, [2]], (1, 2), {"a": 1}, {1, 2}, b"x", object(), ValueError)


def raised(error):
    try:
        raise error
    except ScrewError as caught:
        return caught


class PartErrorsTest(unittest.TestCase):
    def test_by_place_and_by_name(self):
        for name in PARTS:
            made = getattr(errors, name)
            for value in VALUES:
                with self.subTest(name=name, value=value):
                    self.assertIs(made(value).part, value)
                    self.assertIs(made(part=value).part, value)
                    self.assertIs(raised(made(value)).part, value)
                    self.assertEqual(vars(made(value)), {"part": value})

    def test_fields_are_asked_for(self):
        for name in PARTS:
            with self.subTest(name=name):
                self.assertRaises(TypeError, getattr(errors, name))
                self.assertRaises(TypeError, getattr(errors, name), 1, 2)
                self.assertRaises(TypeError, getattr(errors, name), what=1)

    def test_a_list_stays_that_list(self):
        part = [1]
        error = errors.BadNumber(part)
        part.append(2)
        self.assertIs(error.part, part)


class TooManyTest(unittest.TestCase):
    def test_by_place_and_by_name(self):
        for what in VALUES:
            for most in VALUES:
                for error in (TooMany(what, most), TooMany(what, most=most), TooMany(most=most, what=what)):
                    self.assertIs(error.what, what)
                    self.assertIs(error.most, most)
                    self.assertEqual(vars(error), {"what": what, "most": most})

    def test_fields_are_asked_for(self):
        self.assertRaises(TypeError, TooMany)
        self.assertRaises(TypeError, TooMany, "wide")
        self.assertRaises(TypeError, TooMany, "wide", 3, 4)


class ClassesTest(unittest.TestCase):
    def made(self):
        return [getattr(errors, name)("x") for name in PARTS] + [TooMany("x", 1)]

    def test_caught_by_its_own_class_and_the_bases_alone(self):
        every = [type(error) for error in self.made()]
        self.assertEqual(len(set(every)), 9)
        for error in self.made():
            with self.subTest(error=type(error).__name__):
                self.assertIsInstance(error, ScrewError)
                self.assertIsInstance(error, ValueError)
                self.assertEqual([kind for kind in every if isinstance(error, kind)], [type(error)])
                for kind in (LookupError, ArithmeticError, TypeError, RuntimeError, OSError, UnicodeError):
                    self.assertNotIsInstance(error, kind)

    def test_directly_below_the_base(self):
        self.assertEqual(ScrewError.__bases__, (ValueError,))
        for error in self.made():
            self.assertEqual(type(error).__bases__, (ScrewError,))

    def test_caught_in_a_try(self):
        for error in self.made():
            for kind in (type(error), ScrewError, ValueError):
                with self.assertRaises(kind) as caught:
                    raise error
                self.assertIs(caught.exception, error)

    def test_copied(self):
        for error in self.made():
            self.assertEqual(vars(copy.copy(error)), vars(error))


if __name__ == "__main__":
    unittest.main()
