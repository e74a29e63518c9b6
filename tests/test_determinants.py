import random
import time
import unittest

from screwsums.determinants import determinant
from screwsums.errors import BadSum, TooMany
from screwsums.frames import Frame
from screwsums.named import named
from screwsums.sums import Sum, still_sum
from tests.lawful import all_tuples, lawful_frames, moved
from tests.plain import BIG, FRAMES, PRIMES, anew, full_sum, motion_of, ordered, shifts_times, some_sum
from tests.plain import determinant as told_determinant
from tests.test_sums import CHOSEN, NO_SUMS

# By how many turns there are.
MOST = {1: 200, 2: 200, 3: 60, 4: 24, 5: 10, 6: 7, 7: 5, 8: 4}
OF_EACH = ("line", "space", "cyclic 1 3 0", "turned line", "bottle", "cyclic 2 3 1", "third screw", "cyclic 3 1 5",
           "fourth screw", "two screws", "moved two screws", "turned line beside bottle", "cyclic 4 2 0",
           "cyclic 5 3 1", "cyclic 5 1 0", "six turns", "triangle", "cyclic 6 3 5", "cyclic 7 3 1", "cyclic 7 2 0",
           "mirrors", "moved quaternions", "cyclic 8 3 5")


def both(one, other):
    """The terms of the product of two sums of shifts, however many."""
    left, right = [{shift: number for (shift, _), number in total.terms} for total in (one, other)]
    return ordered({(shift, 0): number for shift, number in shifts_times(left, right).items()}, one.by)


def bound_sums():
    """Sums of as many terms as are let, of shifts near and far, of one turn, of two, of any."""
    random.seed(8)
    for name in OF_EACH:
        frame = FRAMES[name]
        for far in (400 if frame.wide == 1 else 15, BIG):
            for turns in ([0], [0, frame.many - 1], list(range(frame.many))):
                yield full_sum(frame, 13, MOST[frame.many], far, turns)


class DeterminantTest(unittest.TestCase):
    def check(self, total):
        found = determinant(total)
        self.assertIs(type(found), Sum)
        self.assertTrue(found.frame == total.frame)
        self.assertEqual(found.by, total.by)
        self.assertEqual(found.terms, told_determinant(total))
        self.assertTrue(all_tuples(found.terms))
        return found

    def test_all_orders(self):
        random.seed(1)
        for name, frame in FRAMES.items():
            if frame.many > 6 and name not in CHOSEN:
                continue
            for by in (PRIMES if frame.many < 5 and name in CHOSEN else (2, 7)):
                many = min(6, MOST[frame.many])
                found = self.check(some_sum(frame, by, random.randint(many - 2, many), random.choice((2, BIG))))
                if frame.many == 1:
                    self.assertLessEqual(len(found.terms), many)

    def test_one_turn(self):
        random.seed(2)
        for name in ("line", "plane", "space", "point", "cyclic 1 3 0"):
            for by in PRIMES:
                total = some_sum(FRAMES[name], by, 200, 40)
                self.assertTrue(determinant(total) == total)

    def test_of_a_product(self):
        random.seed(3)
        for name, frame in FRAMES.items():
            many = {1: 9, 2: 9, 3: 7, 4: 4, 5: 3}.get(frame.many, 2)
            for by in (2, 3, 11):
                one, other = some_sum(frame, by, many), some_sum(frame, by, many)
                product = one.times(other)
                if len(product.terms) <= MOST[frame.many]:
                    self.assertEqual(determinant(product).terms, both(determinant(one), determinant(other)))

    def test_single_motions(self):
        random.seed(4)
        for frame in FRAMES.values():
            for by in PRIMES:
                motion, number = motion_of(frame, 9), random.randint(1, by - 1)
                places = [sum(places) for places in zip(*[frame.times((frame.still[0], c), motion)[0]
                                                          for c in range(frame.many)])]
                order = [frame.times((frame.still[0], c), motion)[1] for c in range(frame.many)]
                odd = sum(order[i] > order[j] for i in range(frame.many) for j in range(i, frame.many)) % 2
                self.assertEqual(determinant(Sum(frame, by, [(motion, number)])).terms,
                                 (((tuple(places), 0), (-1) ** odd * number ** frame.many % by),))
        self.assertEqual(determinant(Sum(named("bottle"), 5, [(((2, 1), 1), 3)])).terms, ((((5, 0), 0), 1),))

    def test_sums_of_shifts(self):
        random.seed(5)
        for name in CHOSEN:
            frame = FRAMES[name]
            total = Sum(frame, 3, [((motion_of(frame)[0], 0), 1) for _ in range(3)])
            made = still_sum(frame, 3)
            for square in frame.squares:
                turned = [((tuple(sum(left * right for left, right in zip(row, shift)) for row in square), 0), number)
                          for (shift, _), number in total.terms]
                made = made.times(Sum(frame, 3, turned))
            self.assertTrue(determinant(total) == made)

    def test_flipped_and_turned(self):
        random.seed(6)
        for name, frame in FRAMES.items():
            total = some_sum(frame, random.choice(PRIMES), min(5, MOST[frame.many]))
            found = determinant(total)
            self.assertTrue(determinant(total.flipped()) == found.flipped())
            for square in frame.squares:
                turned = [((tuple(sum(left * right for left, right in zip(row, shift)) for row in square), 0), number)
                          for (shift, _), number in found.terms]
                self.assertTrue(Sum(frame, total.by, turned[:1000]) == found or len(turned) > 1000)

    def test_from_other_starts(self):
        random.seed(7)
        for name, told in lawful_frames().items():
            wide, many = told[0], len(told[1])
            starts = [[0] * wide] + [[random.randint(-9, 9) for _ in range(wide)] for _ in range(many - 1)]
            total = some_sum(FRAMES[name], 5, min(4, MOST[many]))
            other = Sum(Frame(*moved(told, starts)), 5,
                        [((tuple(place - start for place, start in zip(shift, starts[turn])), turn), number)
                         for (shift, turn), number in total.terms])
            self.assertEqual(determinant(total).terms, determinant(other).terms)

    def test_wide_0_and_no_terms(self):
        random.seed(8)
        for many in range(1, 9):
            frame = FRAMES[f"cyclic {many} 0 0"]
            for by in (PRIMES if many < 6 else (3,)):
                for terms in range(min(many, MOST[many]) + 1):
                    self.assertLessEqual(len(self.check(some_sum(frame, by, terms)).terms), 1)
        for frame in FRAMES.values():
            self.assertEqual(determinant(Sum(frame, 2, [])).terms, ())
            self.assertTrue(determinant(still_sum(frame, 3)) == still_sum(frame, 3))

    def test_at_the_bounds(self):
        for total in bound_sums():
            frame = total.frame
            start = time.perf_counter()
            found = determinant(total)
            self.assertLess(time.perf_counter() - start, 10)
            self.assertEqual(list(found.terms), sorted(found.terms))
            further = motion_of(frame, BIG)
            while further in dict(total.terms):
                further = motion_of(frame, BIG)
            with self.assertRaises(TooMany) as caught:
                determinant(total.plus(Sum(frame, 13, [(further, 1)])))
            self.assertEqual((caught.exception.what, caught.exception.most), ("terms", MOST[frame.many]))

    def test_right_at_the_bounds(self):
        for total in bound_sums():
            # All orders of eight turns take long to be told; three and four turns have too many terms.
            if total.frame.many in (1, 2, 5, 6, 7):
                self.check(total)

    def test_a_product_at_the_bounds(self):
        random.seed(9)
        for name in ("two screws", "fourth screw", "third screw"):
            frame = FRAMES[name]
            one, other = some_sum(frame, 7, 6), full_sum(frame, 7, {3: 10, 4: 4}[frame.many], 9, [1, 2])
            self.assertLessEqual(len(one.times(other).terms), MOST[frame.many])
            self.assertEqual(determinant(one.times(other)).terms, both(determinant(one), determinant(other)))

    def test_again_and_by_name(self):
        total = some_sum(named("two screws"), 3, 8)
        again = Sum(anew(total.frame), 3, [[[list(shift), turn], number] for (shift, turn), number in total.terms])
        self.assertTrue(determinant(total=again) == determinant(total))

    def test_no_sum(self):
        for value in NO_SUMS:
            with self.assertRaises(BadSum) as caught:
                determinant(value)
            self.assertEqual(caught.exception.part, "total")


if __name__ == "__main__":
    unittest.main()
