import itertools
import math
import random
import time
import unittest

from screwsums.errors import BadNumber
from screwsums.papers import Denial, Paper
from screwsums.wholes import Barred, Whole, whole
from tests.lawful import NO_INTEGERS, NO_ROWS, all_tuples

BIG = 10 ** 30 - 1
HIGH = math.lcm(*range(2, 60))


def adds_up(one, other):
    return sum(left * right for left, right in zip(one, other, strict=True))


class WholeTest(unittest.TestCase):
    def check(self, rows, goals):
        """Whether integers make the goals: either answer is shown by adding, and never both are right."""
        before = repr((rows, goals))
        paper = whole(rows, goals)
        self.assertEqual(repr((rows, goals)), before)
        self.assertTrue(all_tuples(paper.parts))
        if type(paper) is Whole:
            self.assertEqual({type(number) for number in paper.numbers} | {int}, {int})
            self.assertEqual([adds_up(row, paper.numbers) for row in rows], list(goals))
        else:
            self.assertIs(type(paper), Barred)
            self.assertEqual({type(number) for number in (paper.modulus, *paper.row)}, {int})
            self.assertGreaterEqual(paper.modulus, 2)
            for column in zip(*rows):
                self.assertEqual(adds_up(paper.row, column) % paper.modulus, 0)
            self.assertNotEqual(adds_up(paper.row, goals) % paper.modulus, 0)
        again = whole(tuple(map(tuple, rows)), tuple(goals))
        self.assertEqual((type(again), repr(again.parts)), (type(paper), repr(paper.parts)))
        self.assertEqual(again, paper)
        return bool(paper)

    def test_goals_that_are_made(self):
        random.seed(1)
        for wide, many in itertools.product(range(1, 13), (1, 2, 3, 6, 11, 12, 13, 48)):
            for most in (1, 4, BIG):
                rows = [[random.randint(-most, most) for _ in range(wide)] for _ in range(many)]
                numbers = [random.randint(-most, most) for _ in range(wide)]
                self.assertTrue(self.check(rows, [adds_up(row, numbers) for row in rows]))

    def test_goals_that_are_barred_by_a_modulus(self):
        random.seed(2)
        for by in (2, 3, 4, 6, 30, 2 ** 60, HIGH):
            for wide, many in itertools.product((1, 2, 5, 12), (1, 2, 5, 12)):
                rows = [[by * random.randint(-9, 9) for _ in range(wide)] for _ in range(many)]
                numbers = [random.randint(-9, 9) for _ in range(wide)]
                goals = [adds_up(row, numbers) for row in rows]
                self.assertTrue(self.check(rows, goals))
                at = random.randrange(many)
                goals[at] += random.choice([often for often in range(-12, 12) if often % by])
                self.assertFalse(self.check(rows, goals))

    def test_goals_that_are_barred_by_many_rows_together(self):
        # 2 x and 2 y and x + y: each goal alone is made, and each two are.
        self.assertFalse(self.check([[2, 0], [0, 2], [1, 1]], [2, 4, 4]))
        self.assertTrue(self.check([[2, 0], [0, 2], [1, 1]], [2, 4, 3]))
        self.assertFalse(self.check([[1, 1], [1, -1]], [1, 0]))
        self.assertTrue(self.check([[1, 1], [1, -1]], [1, 1]))
        self.assertFalse(self.check([[1, 1, 0], [0, 1, 1], [1, 0, 1]], [1, 1, 1]))
        self.assertFalse(self.check([[6, 10, 15], [1, 1, 1], [1, -1, 1], [2, 0, 2]], [1, 1, 1, 1]))

    def test_each_prime_alone_would_do(self):
        for rows, goals, made in (([[6]], [6], True), ([[6]], [3], False), ([[6]], [2], False), ([[4]], [2], False),
                                  ([[6, 9]], [3], True), ([[6, 9]], [2], False), ([[6, 10, 15]], [1], True),
                                  ([[6, 10, 0]], [1], False), ([[-4, 6]], [-2], True), ([[-9]], [6], False)):
            self.assertIs(self.check(rows, goals), made)

    def test_small_ones_as_they_come(self):
        random.seed(3)
        seen = {True: 0, False: 0}
        for _ in range(1500):
            wide, many = random.randint(1, 4), random.randint(1, 4)
            rows = [[random.randint(-4, 4) for _ in range(wide)] for _ in range(many)]
            goals = [random.randint(-4, 4) for _ in range(many)]
            made = self.check(rows, goals)
            seen[made] += 1
            if not made and wide < 4:
                for numbers in itertools.product(range(-4, 5), repeat=wide):
                    self.assertNotEqual([adds_up(row, numbers) for row in rows], goals)
        self.assertGreater(min(seen.values()), 200)

    def test_rows_that_hang_together(self):
        random.seed(4)
        for wide, many in itertools.product((2, 5, 12), (3, 12, 48)):
            lead = [[random.randint(-50, 50) for _ in range(wide)] for _ in range(wide // 2)]
            taken = [[random.randint(-3, 3) for _ in lead] for _ in range(many)]
            rows = [[adds_up(often, column) for column in zip(*lead)] for often in taken]
            numbers = [random.randint(-50, 50) for _ in range(wide)]
            goals = [adds_up(row, numbers) for row in rows]
            self.assertTrue(self.check(rows, goals))
            for _ in range(4):
                self.check(rows, [adds_up(often, [random.randint(-9, 9) for _ in lead]) for often in taken])
            goals[random.randrange(many)] += 1
            self.check(rows, goals)

    def test_rows_without_integers(self):
        for many in (1, 2, 48):
            self.assertTrue(self.check([[]] * many, [0] * many))
            self.assertEqual(whole([[]] * many, [0] * many), Whole(()))
            for goal in (1, -1, 2, 6, HIGH, -BIG):
                self.assertFalse(self.check([[]] * many, [0] * (many - 1) + [goal]))

    def test_rows_of_0s(self):
        for wide in (1, 3, 12):
            for many in (1, 2, 48):
                rows = [[0] * wide] * many
                self.assertTrue(self.check(rows, [0] * many))
                for goal in (1, -1, 2, 12, HIGH, BIG):
                    self.assertFalse(self.check(rows, [0] * (many - 1) + [goal]))
                rows = rows[1:] + [[1] * wide]
                self.assertTrue(self.check(rows, [0] * (many - 1) + [5]))
                self.assertIs(self.check(rows, [7] * (many - 1) + [5]), many == 1)

    def test_many_equal_rows(self):
        for row, goal, made in (([4, 6], 2, True), ([4, 6], 3, False), ([1] * 12, -7, True), ([0] * 12, 0, True),
                                ([BIG, 0, -BIG], 2 * BIG, True), ([BIG, 0, -BIG], 1, False)):
            self.assertIs(self.check([row] * 48, [goal] * 48), made)
            self.assertFalse(self.check([row] * 48, [goal] * 47 + [goal + 1]))

    def test_integers_of_30_digits(self):
        random.seed(5)
        begun = time.perf_counter()
        for wide, many in itertools.product((1, 4, 11, 12), (1, 3, 11, 12, 13, 48)):
            for rank in {1, min(wide, many), max(1, min(wide, many) - 1)}:
                lead = [[random.randint(-BIG, BIG) for _ in range(wide)] for _ in range(rank)]
                rows = [random.choice(lead) for _ in range(many)]
                numbers = [random.randint(-1, 1) for _ in range(wide)]
                goals = [adds_up(row, numbers) for row in rows]
                self.assertTrue(self.check(rows, goals))
                goals[-1] += 1
                self.check(rows, goals)
                self.check(rows, [random.randint(-BIG, BIG) for _ in rows])
        for by in (2 ** 99, 3 ** 62, 6 ** 38, HIGH):
            rows = [[random.randint(-3, 3) * by + random.choice((0, by // 2, by // 3)) for _ in range(12)]
                    for _ in range(12)]
            self.check(rows, [by // 6] * 12)
            self.check(rows[:7], [by // 6] * 7)
        self.assertLess(time.perf_counter() - begun, 30)

    def test_parts_of_papers(self):
        self.assertEqual(whole(goals=[3], rows=[[4, 6]]), Barred((1,), 2))
        self.assertEqual(whole([[2, 0], [1, 1]], (4, 7)), Whole((2, 5)))


class WrongTest(unittest.TestCase):
    def part_of(self, rows, goals):
        with self.assertRaises(BadNumber) as caught:
            whole(rows, goals)
        return caught.exception.part

    def test_rows(self):
        for rows in NO_ROWS + ([], (), [1], [[1], [2, 3]], [[], [1]], [[1], []], [[1], [True]], [[1], [None]],
                               ["12", "34"], [[1], "1"], [[1], [[1]]], [[0] * 13], [[1]] * 49, [[]] * 49, [[1.0]],
                               [{1: 1}], {0: [1]}, [[0] * 12, [0] * 13], [None], [None, [1]], [5, [1]]):
            for goals in ([1, 2], [1], None):
                self.assertEqual(self.part_of(rows, goals), "rows")

    def test_goals(self):
        for goals in NO_ROWS + NO_INTEGERS[:6] + (0, [], [1], [1, 2, 3], [1, True], [1, None], "12", ["1", 2],
                                                  [[1], 2], [1, 2.0], {1: 1, 2: 2}, [[1, 2]]):
            for rows in ([[1, 2], [3, 4]], [[], []]):
                self.assertEqual(self.part_of(rows, goals), "goals")


class PapersTest(unittest.TestCase):
    def test_whole(self):
        for paper in (Whole([1, 2]), Whole(numbers=(1, 2))):
            self.assertEqual((paper.word, paper.parts, paper.numbers), ("whole", ((1, 2),), (1, 2)))
            self.assertIs(bool(paper), True)
            self.assertIsInstance(paper, Paper)
            self.assertNotIsInstance(paper, Denial)
            self.assertTrue(paper == Whole((1, 2)))
            self.assertFalse(paper == Whole((1, 3)))
            self.assertFalse(paper == Paper("whole", (1, 2)))
        self.assertEqual(repr(Whole([[], [[1]]]).parts), "(((), ((1,),)),)")
        self.assertIs(Whole(None).numbers, None)

    def test_barred(self):
        for paper in (Barred([1, 2], 3), Barred(modulus=3, row=(1, 2)), Barred((1, 2), modulus=3)):
            self.assertEqual((paper.word, paper.parts, paper.row, paper.modulus),
                             ("barred", ((1, 2), 3), (1, 2), 3))
            self.assertIs(bool(paper), False)
            self.assertIsInstance(paper, Denial)
            self.assertTrue(paper == Barred((1, 2), 3))
            self.assertFalse(paper == Barred((1, 2), 4))
            self.assertFalse(paper == Denial("barred", (1, 2), 3))
        self.assertEqual(Barred("x", [2]).parts, ("x", (2,)))


if __name__ == "__main__":
    unittest.main()
