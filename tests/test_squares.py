import itertools
import math
import random
import time
import unittest
from fractions import Fraction

from screwsums.errors import BadNumber
from screwsums.squares import row_times, vanishing
from tests.lawful import NO_INTEGERS, NO_ROWS, all_tuples

BIG = 10 ** 30 - 1
PRIMES = [number for number in range(2, 60) if all(number % by for by in range(2, number))]


def eliminated(rows):
    """Rows of fractions made of the told ones, each with a 1 where all others have 0, and these places."""
    rows, places = [[Fraction(number) for number in row] for row in rows], []
    for place in range(len(rows[0]) if rows else 0):
        below = [at for at in range(len(places), len(rows)) if rows[at][place]]
        if below:
            top = len(places)
            rows[top], rows[below[0]] = rows[below[0]], rows[top]
            rows[top] = [number / rows[top][place] for number in rows[top]]
            for at in range(len(rows)):
                if at != top and rows[at][place]:
                    rows[at] = [one - rows[at][place] * other for one, other in zip(rows[at], rows[top])]
            places.append(place)
    return rows[:len(places)], places


def determinant(rows):
    """Of integers, so that what is divided leaves no rest."""
    rows, ahead, sign = [list(row) for row in rows], 1, 1
    for at in range(len(rows)):
        below = [row for row in range(at, len(rows)) if rows[row][at]]
        if not below:
            return 0
        if below[0] != at:
            rows[at], rows[below[0]], sign = rows[below[0]], rows[at], -sign
        for row in range(at + 1, len(rows)):
            rows[row] = [(rows[at][at] * one - rows[row][at] * other) // ahead
                         for one, other in zip(rows[row], rows[at])]
        ahead = rows[at][at]
    return sign * ahead


def minors_divisor(rows, wide):
    """The common divisor of all squares that can be cut out of rows: 1 if whole sums of them miss no list."""
    divisor = 0
    for places in itertools.combinations(range(wide), len(rows)):
        divisor = math.gcd(divisor, determinant([[row[place] for place in places] for row in rows]))
        if divisor == 1:
            break
    return divisor


def times_taken(basis, wanted):
    """How often each list of the basis is in another one, as fractions; None if it is not made of them."""
    columns = [list(column) + [goal] for column, goal in zip(zip(*basis), wanted)]
    rows, places = eliminated(columns)
    if places != list(range(len(basis))):
        return None
    return [row[-1] for row in rows]


class RowTimesTest(unittest.TestCase):
    def test_as_told(self):
        random.seed(1)
        for many, wide in itertools.product((1, 2, 3, 7, 47, 48), (0, 1, 2, 5, 11, 12)):
            for most in (3, BIG):
                row = [random.randint(-most, most) for _ in range(many)]
                rows = [[random.randint(-most, most) for _ in range(wide)] for _ in range(many)]
                told = [0] * wide
                for number, other in zip(row, rows):
                    for place in range(wide):
                        told[place] += number * other[place]
                before = repr((row, rows))
                self.assertEqual(repr(row_times(row, rows)), repr(tuple(told)))
                self.assertEqual(repr((row, rows)), before)
                self.assertEqual(row_times(tuple(row), tuple(map(tuple, rows))), tuple(told))

    def test_by_name(self):
        self.assertEqual(row_times(rows=[(1, 2), [3, 4]], row=(10, 1)), (13, 24))
        self.assertEqual(row_times([1] * 48, [[]] * 48), ())

    def part_of(self, row, rows):
        with self.assertRaises(BadNumber) as caught:
            row_times(row, rows)
        return caught.exception.part

    def test_wrong_row(self):
        for row in NO_INTEGERS[:6] + NO_ROWS + ([], (), [1] * 49, [1, True], [None], ["1"], "1", [[1]], [1.0], {1: 1}):
            for rows in ([[1]], None, [[1, 2]] * 49):
                self.assertEqual(self.part_of(row, rows), "row")

    def test_wrong_rows(self):
        for rows in NO_ROWS + ([], [1], [[1]], [[1]] * 3, [[1], [2, 3]], [[], [1]], [[1], []], [[1], [True]],
                               [[1], [None]], [[1], "1"], ["1", "1"], [[1], ["1"]], [[1], [[1]]], [[0] * 13] * 2,
                               [[0] * 12, [0] * 13], [[1.0], [1]], [[1], {1: 1}], [{}, {}], {0: [1], 1: [1]}, "ab",
                               [None, [1]], [7, []]):
            self.assertEqual(self.part_of([1, 2], rows), "rows")
        self.assertEqual(self.part_of([1] * 48, [[1]] * 49), "rows")
        self.assertEqual(self.part_of([1] * 48, [[1]] * 47), "rows")


class VanishingTest(unittest.TestCase):
    def check(self, wide, rows):
        found = vanishing(wide, rows)
        self.assertIs(type(found), tuple)
        self.assertTrue(all_tuples(found))
        for made in found:
            self.assertEqual(len(made), wide)
            self.assertEqual({type(number) for number in made} | {int}, {int})
            for row in rows:
                self.assertEqual(sum(one * other for one, other in zip(row, made)), 0)
        self.assertEqual(len(found), wide - len(eliminated(rows)[1]))
        self.assertEqual(minors_divisor(found, wide), 1)
        self.assertEqual(repr(vanishing(wide, tuple(map(tuple, rows)))), repr(found))
        return found

    def test_no_rows_and_rows_of_0s(self):
        for wide in range(13):
            for rows in ([], [[0] * wide], [[0] * wide] * 48):
                self.assertEqual(len(self.check(wide, rows)), wide)
        self.assertEqual(vanishing(0, []), ())
        self.assertEqual(vanishing(0, [[]] * 48), ())

    def test_small_ones(self):
        random.seed(2)
        for wide, many in itertools.product(range(1, 13), (1, 2, 3, 5, 8, 12, 48)):
            for most in (1, 2, 6, 60):
                rank = random.randint(0, min(wide, many))
                lead = [[random.randint(-most, most) for _ in range(wide)] for _ in range(rank)]
                rows = [[sum(often * row[place] for often, row in zip(taken, lead)) for place in range(wide)]
                        for taken in [[random.randint(-2, 2) for _ in lead] for _ in range(many)]]
                self.check(wide, rows)

    def test_what_makes_0s_is_a_whole_sum(self):
        random.seed(3)
        for rows in ([[2, 4, 6]], [[6, 10, 15]], [[4, 6, 9], [0, 2, 3]], [[0, 0, 5]], [[3, 5, 7], [1, 1, 1]],
                     [[2, 0, 0], [0, 3, 0]], [[12, 18, 27]], [[5, 5, 5], [10, 10, 10]], [[-4, 2, 0]], [[7, -7, 1]]):
            found = self.check(3, rows)
            for wanted in itertools.product(range(-6, 7), repeat=3):
                if all(sum(one * other for one, other in zip(row, wanted)) == 0 for row in rows):
                    taken = times_taken(found, wanted)
                    self.assertTrue(all(often.denominator == 1 for often in taken))

    def test_lists_without_a_divisor_of_the_rows_own(self):
        # x = (1, 1, .., 1, 0) and its like make 0s: a basis of multiples alone would miss them.
        for number in (2, 6, 30, 510510, BIG, 2 ** 99):
            found = self.check(3, [[number, -number, 0], [0, 0, number]])
            self.assertIn(found, (((1, 1, 0),), ((-1, -1, 0),)))
            found = self.check(4, [[number, 1, 0, 0], [0, 0, number, number + 1]])
            self.assertEqual(len(found), 2)
            for wanted in ((1, -number, 0, 0), (0, 0, number + 1, -number)):
                self.assertTrue(all(often.denominator == 1 for often in times_taken(found, wanted)))

    def test_integers_of_30_digits(self):
        random.seed(4)
        begun = time.perf_counter()
        for wide, many in itertools.product((2, 5, 9, 12), (1, 2, 4, 8, 11, 12, 48)):
            rank = random.randint(1, min(wide, many))
            rows = [[random.randint(-BIG, BIG) for _ in range(wide)] for _ in range(rank)]
            rows = [random.choice(rows) for _ in range(many)]
            self.check(wide, rows)
        for lead in (math.prod(PRIMES), 2 ** 99, 3 ** 62, 6 ** 38):
            for wide in (3, 8, 12):
                rows = [[lead * random.randint(-2, 2) + lead // random.choice(PRIMES) for _ in range(wide)]
                        for _ in range(wide - 2)]
                self.check(wide, rows)
        self.assertLess(time.perf_counter() - begun, 60)

    def test_answers_stay_short(self):
        # About as long as determinants of the rows: 12 integers of 30 digits, multiplied.
        random.seed(8)
        for wide, many in ((12, 3), (12, 6), (12, 9), (12, 11), (8, 5)):
            for lead in (1, 2, 6 ** 3):
                rows = [[lead * random.randint(-BIG // lead, BIG // lead) + lead // 2 for _ in range(wide)]
                        for _ in range(many)]
                for made in vanishing(wide, rows):
                    self.assertLess(max(map(abs, made)), 10 ** (33 * many))

    def test_at_once(self):
        random.seed(6)
        begun = time.perf_counter()
        for many in (6, 11, 12, 48):
            for _ in range(5):
                vanishing(12, [[random.randint(-BIG, BIG) for _ in range(12)] for _ in range(many)])
        self.assertLess(time.perf_counter() - begun, 5)

    def test_by_name_and_what_is_passed_stays(self):
        rows = [[2, 4, 6], [1, 2, 3]]
        self.assertEqual(vanishing(rows=rows, wide=3), vanishing(3, rows))
        self.assertEqual(rows, [[2, 4, 6], [1, 2, 3]])

    def part_of(self, wide, rows):
        with self.assertRaises(BadNumber) as caught:
            vanishing(wide, rows)
        return caught.exception.part

    def test_wrong_wide(self):
        for wide in NO_INTEGERS + (-1, 13, 10 ** 30):
            for rows in ([], None):
                self.assertEqual(self.part_of(wide, rows), "wide")

    def test_wrong_rows(self):
        for rows in NO_ROWS + ([1, 2], [[1]], [[1, 2], [3]], [[1, 2, 3]], [[1, True]], [[1, None]], [[1, "2"]],
                               ["12"], [[1, [2]]], [[1, 2.0]], [[]], [{1: 1, 2: 2}], {0: [1, 2]}, "", {}, set(),
                               [[1, 2]] * 49, [[1, 2], None]):
            self.assertEqual(self.part_of(2, rows), "rows")
        for rows in ([[1]], [[], [0]], [[]] * 49):
            self.assertEqual(self.part_of(0, rows), "rows")
        self.assertEqual(self.part_of(12, [[0] * 13]), "rows")


if __name__ == "__main__":
    unittest.main()
