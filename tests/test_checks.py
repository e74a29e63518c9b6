import math
import unittest

from screwsums.checks import (are_integers, are_rows, common_divisor, is_by, is_integer, is_row,
                              is_within, over)
from screwsums.errors import BadNumber, Misfit
from tests.lawful import NO_INTEGERS, NO_ROWS

HUGE = 10 ** 400


class KindsTest(unittest.TestCase):
    def same(self, got, expected):
        self.assertIs(got, expected)

    def test_is_integer(self):
        for value in (0, 1, -1, 7, HUGE, -HUGE):
            self.same(is_integer(value), True)
        for value in NO_INTEGERS + ([], (), "", "text", float("nan"), 2j):
            self.same(is_integer(value), False)
        self.same(is_integer(value=3), True)

    def test_is_within_at_its_bounds(self):
        for least, most, inside, outside in (
                (2, 5, (2, 3, 5), (1, 6, -3, HUGE)), (-3, -3, (-3,), (-4, -2)), (4, 3, (), (3, 4)),
                (None, 3, (3, 0, -HUGE), (4, HUGE)), (0, None, (0, 5, HUGE), (-1, -HUGE)),
                (None, None, (0, HUGE, -HUGE), ()), (-HUGE, HUGE, (HUGE, -HUGE), (HUGE + 1, -HUGE - 1)),
                (0, 0, (0,), (1, -1))):
            for value in inside:
                self.same(is_within(value, least, most), True)
            for value in outside:
                self.same(is_within(value, least, most), False)

    def test_is_within_of_what_is_no_integer(self):
        for value in NO_INTEGERS:
            for least, most in ((None, None), (-9, 9), (0, None), (None, 1)):
                self.same(is_within(value, least, most), False)
        self.same(is_within(most=3, least=1, value=2), True)

    def test_are_integers(self):
        for value in ([], (), [0], (0,), [1, -2, HUGE], (1, 2, 3)):
            self.same(are_integers(value), True)
        for value in NO_ROWS + ([True], [1, False], (1, None), [1.0], ["1"], [[1]], ((),), "12", "", {}, set(),
                                range(3)):
            self.same(are_integers(value), False)
        self.same(are_integers(value=[1]), True)

    def test_is_row(self):
        for value, wide in (([], 0), ((), 0), ([5], 1), ((0, -3), 2), ([1, 2, 3], 3), ([HUGE] * 4, 4)):
            self.same(is_row(value, wide), True)
            self.same(is_row(value, wide + 1), False)
            self.same(is_row(value, wide - 1), False)
        for value in NO_ROWS + ([1, True], [1, None], (1, "2"), [1, [2]], "12", b"12", {1: 1, 2: 2}, range(2)):
            self.same(is_row(value, 2), False)
        self.same(is_row(wide=1, value=(1,)), True)

    def test_are_rows(self):
        for value, many, wide in (((), 0, 3), ([], 0, 0), ([[]], 1, 0), (((), []), 2, 0), ([[1, 2], (3, 4)], 2, 2),
                                  (((1, 2, 3),), 1, 3)):
            self.same(are_rows(value, many, wide), True)
            self.same(are_rows(value, many + 1, wide), False)
        for value in NO_ROWS + ([[1, 2], [3]], [[1, 2], [3, 4, 5]], [[1, 2]], [[1, 2], 3], [[1, 2], "ab"], [1, 2],
                                [[1, 2], [3, True]], [[1, 2], [3, [4]]], [[1, 2], None], {0: [1, 2], 1: [3, 4]},
                                [[1, 2], [3, 4], [5, 6]], []):
            self.same(are_rows(value, 2, 2), False)
        self.same(are_rows(wide=1, many=1, value=[[4]]), True)

    def test_is_by(self):
        for value in range(-20, 200):
            self.same(is_by(value), value in (2, 3, 5, 7, 11, 13))
        for value in NO_INTEGERS + (2.0, "2", [2], (3,), HUGE, 7 + 13 * HUGE):
            self.same(is_by(value), False)
        self.same(is_by(value=13), True)


class CommonDivisorTest(unittest.TestCase):
    def test_ordinary(self):
        for values, expected in (([], 0), ((), 0), ([0], 0), ((0, 0), 0), ([7], 7), ([-7], 7), ([0, -4], 4),
                                 ((-12, 18, 0), 6), ([1, HUGE], 1), ([HUGE * 6, -HUGE * 4], HUGE * 2), ([3, 5], 1)):
            self.assertEqual(common_divisor(values), expected)
        self.assertEqual(common_divisor(values=[4, 6]), 2)

    def test_all_small_ones(self):
        for one in range(-12, 13):
            for other in range(-12, 13):
                self.assertEqual(common_divisor([one, other]), math.gcd(one, other))

    def test_wrong(self):
        for value in NO_ROWS + ([1, True], [None], [1, "2"], [[1, 2]], "12", range(3)):
            with self.assertRaises(BadNumber) as caught:
                common_divisor(value)
            self.assertEqual(caught.exception.part, "values")

    def test_what_is_passed_stays(self):
        values = [4, -6]
        common_divisor(values)
        self.assertEqual(values, [4, -6])


class OverTest(unittest.TestCase):
    def test_every_prime(self):
        for by in (2, 3, 5, 7, 11, 13):
            for number in list(range(-40, 40)) + [HUGE, -HUGE, HUGE + 1, HUGE + 2]:
                if number % by:
                    worth = over(number, by)
                    self.assertIn(worth, range(1, by))
                    self.assertEqual(worth * number % by, 1)
                else:
                    with self.assertRaises(Misfit) as caught:
                        over(number, by)
                    self.assertEqual(caught.exception.part, "number")
        self.assertEqual(over(by=7, number=3), 5)

    def test_wrong(self):
        for value in NO_INTEGERS:
            for by in (7, 4, None):
                with self.assertRaises(BadNumber) as caught:
                    over(value, by)
                self.assertEqual(caught.exception.part, "number")
        for value in NO_INTEGERS + (0, 1, 4, 9, 17, -2, 2.0):
            for number in (0, 3):
                with self.assertRaises(BadNumber) as caught:
                    over(number, value)
                self.assertEqual(caught.exception.part, "by")


if __name__ == "__main__":
    unittest.main()
