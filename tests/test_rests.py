import itertools
import random
import unittest

from screwsums.errors import BadNumber, BadSum
from screwsums.frames import Frame
from screwsums.named import named
from screwsums.rests import rests_of
from screwsums.sums import Sum
from tests.downward import DOWN
from tests.lawful import NO_INTEGERS, all_tuples
from tests.plain import BIG, PRIMES, anew, motion_of, ordered, some_sum
from tests.test_sums import CHOSEN, NO_SUMS, caught, steps

LINE, MIRROR = named("line"), named("turned line")
RESTS = (2, 3, 4, 5, 6)
NO_RESTS = NO_INTEGERS + (-2, -1, 0, 1, 7, 8, 12, BIG, 10 ** 100)


def told_rests(by, rest, terms):
    """The terms by rests of any terms, one after another."""
    numbers = {}
    for (shift, turn), number in terms:
        at = (tuple(place - place // rest * rest for place in shift), turn)
        numbers[at] = numbers.get(at, 0) + number
    return ordered(numbers, by)


def told_product(frame, by, rest, one, other):
    return told_rests(by, rest, [(frame.times(ahead, behind), number * worth)
                                 for (ahead, number), (behind, worth) in itertools.product(one, other)])


class RestsTest(unittest.TestCase):
    def check(self, total, rest):
        found = rests_of(total, rest)
        self.assertEqual(found, told_rests(total.by, rest, total.terms))
        self.assertTrue(all_tuples(found))
        self.assertTrue(all(0 <= place < rest for (shift, _), _ in found for place in shift))
        self.assertEqual(rests_of(rest=rest, total=Sum(anew(total.frame), total.by, list(total.terms[:1000]))),
                         found if len(total.terms) <= 1000 else told_rests(total.by, rest, total.terms[:1000]))
        return found

    def test_drawn_sums(self):
        random.seed(1)
        for name in CHOSEN:
            for by, rest in itertools.product(PRIMES, RESTS):
                self.check(some_sum(DOWN[name], by, 30, random.choice((2, 9, BIG))), rest)

    def test_above_and_below_0(self):
        for rest in RESTS:
            for place in range(-20, 20):
                found = self.check(Sum(LINE, 5, [(((place,), 0), 3)]), rest)
                self.assertEqual(found, ((((place % rest,), 0), 3),))
        total = Sum(named("space"), 7, [(((-1, 6, -12), 0), 4), (((-7, -6, 1), 0), 5)])
        self.assertEqual(self.check(total, 6), ((((5, 0, 0), 0), 4), (((5, 0, 1), 0), 5)))

    def test_by_turn_and_what_is_0_left_out(self):
        total = Sum(MIRROR, 3, [(((5,), 1), 1), (((2,), 1), 1), (((4,), 0), 1), (((0,), 0), 1), (((7,), 0), 2)])
        self.assertEqual(self.check(total, 3), ((((0,), 0), 1), (((2,), 1), 2)))
        self.assertEqual(self.check(total, 2), ((((0,), 0), 2), (((1,), 0), 2), (((0,), 1), 1), (((1,), 1), 1)))
        total = Sum(LINE, 2, [(((at,), 0), 1) for at in range(12)])
        for rest in RESTS:
            odd = [at for at in range(rest) if len(range(at, 12, rest)) % 2]
            self.assertEqual(self.check(total, rest), tuple((((at,), 0), 1) for at in odd))

    def test_no_terms_and_wide_0(self):
        for frame in DOWN.values():
            self.assertEqual(self.check(Sum(frame, 5, []), 4), ())
        for many in range(1, 9):
            frame = DOWN[f"cyclic {many} 0 0"]
            total = some_sum(frame, 7, many)
            for rest in RESTS:
                self.assertEqual(self.check(total, rest), total.terms)

    def test_more_than_a_thousand_terms(self):
        for name, far in (("line", 1), ("two screws", 5), ("bottle", -7), ("moved quaternions", BIG)):
            total = steps(DOWN[name], 2500, far, 13)
            for rest in RESTS:
                self.check(total, rest)

    def test_pushed_on(self):
        # A motion ahead of or behind a shift by multiples of the rest stands for what it did.
        random.seed(2)
        for name in CHOSEN:
            frame = DOWN[name]
            for rest in RESTS:
                total = some_sum(frame, 5, 9)
                pushed = []
                for motion, number in total.terms:
                    shift = (tuple(rest * place for place in motion_of(frame, 4)[0]), 0)
                    pushed.append((random.choice((frame.times(motion, shift), frame.times(shift, motion))), number))
                self.assertEqual(rests_of(Sum(frame, 5, pushed), rest), self.check(total, rest))

    def test_products(self):
        random.seed(3)
        for name in CHOSEN:
            frame = DOWN[name]
            for rest in RESTS:
                one, other = some_sum(frame, 3, 7), some_sum(frame, 3, 8)
                self.assertEqual(rests_of(one.times(other), rest),
                                 told_product(frame, 3, rest, self.check(one, rest), self.check(other, rest)))

    def test_wrong(self):
        for total in NO_SUMS:
            for rest in (3, 7, None):
                self.assertEqual(caught(self, BadSum, rests_of, total, rest).part, "total")
        for rest in NO_RESTS:
            for total in (Sum(LINE, 2, []), Sum(Frame(0, [[0]], [[]], [[[]]]), 3, [(((), 0), 1)])):
                self.assertEqual(caught(self, BadNumber, rests_of, total, rest).part, "rest")


if __name__ == "__main__":
    unittest.main()
