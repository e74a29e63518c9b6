import random
import time
import unittest

from screwsums.cut import Clear, Cut, cut, cut_right
from screwsums.errors import BadSum, TooMany
from screwsums.named import named
from screwsums.papers import Denial, Paper
from screwsums.sums import Sum, still_sum
from tests.lawful import all_tuples
from tests.plain import (BIG, FRAMES, PRIMES, anew, full_sum, gardam, less_motion, motion_of, powers_sum, some_sum,
                         times)
from tests.plain import determinant as told_determinant
from tests.test_determinants import MOST, bound_sums
from tests.test_sums import CHOSEN, NO_SUMS
from tests.test_undone import with_backs


def cut_sums(frame, by, back, far=3):
    """Sums that are cut: with a factor that is, at the one side, at the other, in the middle, at both."""
    one, other = less_motion(frame, by, back.motion), powers_sum(frame, by, back)
    left, right = [Sum(frame, by, [(motion_of(frame, far), random.randint(1, by - 1))]) for _ in range(2)]
    some = some_sum(frame, by, 2, far)
    found = [Sum(frame, by, [])]
    for middle in (one, other):
        found.extend([middle, left.times(middle), middle.times(right), left.times(middle).times(right),
                      some.times(middle), middle.times(some), left.times(middle).plus(right.times(middle)),
                      middle.times(left).less(middle.times(right))])
    return [total for total in found if len(total.terms) <= MOST[frame.many]]


class CutTest(unittest.TestCase):
    def check(self, total, is_cut=None):
        """Both papers, right by multiplying; the determinant tells of which class they are."""
        told = told_determinant(total) if is_cut is None else ()
        from_left, from_right = cut(total), cut_right(total)
        if is_cut or not told:
            for paper, one, other in ((from_left, from_left.other, total), (from_right, total, from_right.other)):
                self.assertIs(type(paper), Cut)
                self.assertIs(type(paper.other), Sum)
                self.assertTrue(paper.other.frame == total.frame)
                self.assertEqual(paper.other.by, total.by)
                self.assertGreater(len(paper.other.terms), 0)
                self.assertTrue(all_tuples(paper.other.terms))
                self.assertEqual(times(one, other), ())
        else:
            for paper in (from_left, from_right):
                self.assertIs(type(paper), Clear)
                self.assertEqual(paper.shift, told[0][0][0])
                self.assertTrue(all_tuples(paper.parts))
            self.assertTrue(from_left == from_right)
        return from_left

    def test_all_frames(self):
        random.seed(1)
        seen = {Cut: 0, Clear: 0}
        for name, frame in FRAMES.items():
            if frame.many > 6 and name not in CHOSEN:
                continue
            for by in (PRIMES if frame.many < 5 and name in CHOSEN else (2, 3)):
                for many in range(5 if frame.many < 8 else 4):
                    seen[type(self.check(some_sum(frame, by, many, 1)))] += 1
        self.assertGreater(min(seen.values()), 80)

    def test_factors_at_each_side(self):
        random.seed(2)
        for name, frame, back in with_backs():
            for by in ((2, 3, 13) if name in CHOSEN else (3,)):
                for total in cut_sums(frame, by, back, random.choice((1, 5, BIG))):
                    self.assertIs(bool(self.check(total, True)), True)

    def test_from_one_side_alone(self):
        # Over carries the shift along the other way about: what cuts from one side need not from the other.
        flat = named("turned line")
        still, over, along = [Sum(flat, 3, [(at, 1)]) for at in (((0,), 0), ((0,), 1), ((1,), 0))]
        unlike = {"left": 0, "right": 0}
        for total in (along.times(still.less(over)), still.less(over).times(along), along.times(still.plus(over)),
                      along.plus(still).times(still.plus(over)), still.less(over).times(along.scaled(2).plus(over)),
                      still.plus(over).times(along.plus(still)).times(along), along.plus(over).times(still.less(over))):
            self.check(total, True)
            unlike["left"] += times(total, cut(total).other) != ()
            unlike["right"] += times(cut_right(total).other, total) != ()
        self.assertGreater(min(unlike.values()), 0)

    def test_still_less_what_comes_back(self):
        for name, frame, back in with_backs():
            for by in PRIMES:
                if frame.many < 8 or name in CHOSEN:
                    total = less_motion(frame, by, back.motion)
                    self.check(total, True)
                    self.assertEqual(powers_sum(frame, by, back).times(total).terms, ())

    def test_sum_without_terms(self):
        for frame in FRAMES.values():
            for by in PRIMES:
                self.assertIs(bool(self.check(Sum(frame, by, []), True)), True)

    def test_clear_where_no_motion_comes_back(self):
        random.seed(3)
        for name in ("line", "plane", "space", "bottle", "third screw", "fourth screw", "two screws"):
            for by in PRIMES:
                for many in (1, 2, 5):
                    total = full_sum(FRAMES[name], by, many, 3, list(range(FRAMES[name].many)))
                    self.assertIs(bool(self.check(total)), False)
        self.assertEqual(self.check(gardam(named("two screws"))).shift, (0, 0, 0))

    def test_least_shift(self):
        line, bottle = named("line"), named("bottle")
        for by in PRIMES:
            total = Sum(line, by, [(((at,), 0), 1) for at in (5, -3, BIG, 0, -BIG)])
            self.assertEqual((cut(total).parts, cut_right(total).parts), (((-BIG,),), ((-BIG,),)))
        total = Sum(bottle, 2, [(((3, 0), 0), 1), (((-1, 5), 0), 1)])
        self.assertEqual((cut(total).shift, cut_right(total=total).shift), ((-2, 0), (-2, 0)))
        # That of the flipped sum is another one.
        self.assertEqual(cut_right(total.flipped()).shift, (-6, 0))

    def test_wide_0(self):
        random.seed(4)
        for many in range(1, 9):
            frame = FRAMES[f"cyclic {many} 0 0"]
            for by in (PRIMES if many < 7 else (2,)):
                for terms in range(min(many, MOST[many]) + 1):
                    self.check(some_sum(frame, by, terms))
        self.assertEqual(cut(still_sum(FRAMES["point"], 3)).parts, ((),))

    def test_again_and_by_name(self):
        random.seed(5)
        for name, frame, back in with_backs():
            for total in cut_sums(frame, 3, back):
                again = Sum(anew(frame), 3, [[[list(at), turn], number] for (at, turn), number in total.terms])
                self.assertTrue(cut(total=again) == cut(total))
                self.assertTrue(cut_right(total=again) == cut_right(total))
                self.assertEqual(again.terms, total.terms)

    def test_bounds(self):
        for total in bound_sums():
            frame, most = total.frame, MOST[total.frame.many]
            start = time.perf_counter()
            one, other = cut(total), cut_right(total)
            self.assertLess(time.perf_counter() - start, 10)
            self.assertEqual(one.word, "clear")
            self.assertTrue(one == other)
            for call in (cut, cut_right):
                with self.assertRaises(TooMany) as caught:
                    call(full_sum(frame, 2, most + 1, BIG, [0]))
                self.assertEqual((caught.exception.what, caught.exception.most), ("terms", most))

    def test_cut_at_the_bounds(self):
        random.seed(6)
        most_seen = {}
        for name, frame, back in with_backs():
            most = MOST[frame.many]
            for far in (5, BIG):
                middle = less_motion(frame, 13, back.motion)
                for from_right in (False, True):
                    total = Sum(frame, 13, [])
                    for _ in range(most):
                        alone = Sum(frame, 13, [(motion_of(frame, far), random.randint(1, 12))])
                        further = total.plus(middle.times(alone) if from_right else alone.times(middle))
                        total = further if len(further.terms) <= most else total
                    start = time.perf_counter()
                    one, other = cut(total), cut_right(total)
                    self.assertLess(time.perf_counter() - start, 10)
                    self.assertEqual((one.other.times(total).terms, total.times(other.other).terms), ((), ()))
                    self.assertGreater(min(len(one.other.terms), len(other.other.terms)), 0)
                    most_seen[frame.many] = max(most_seen.get(frame.many, 0), len(total.terms))
        self.assertEqual([most_seen[many] for many in range(2, 9)], [200, 60, 24, 10, 6, 5, 4])

    def test_no_sum(self):
        for value in NO_SUMS:
            for call in (cut, cut_right):
                with self.assertRaises(BadSum) as caught:
                    call(value)
                self.assertEqual(caught.exception.part, "total")


class PapersTest(unittest.TestCase):
    def test_cut(self):
        total = still_sum(named("line"), 2)
        for paper in (Cut(total), Cut(other=total)):
            self.assertEqual((paper.word, len(paper.parts)), ("cut", 1))
            self.assertTrue(paper.other == total and paper.parts == (total,))
            self.assertIs(bool(paper), True)
            self.assertNotIsInstance(paper, Denial)
            self.assertTrue(paper == Cut(still_sum(named("line"), 2)))
            self.assertFalse(paper == Cut(still_sum(named("line"), 3)))
            self.assertFalse(paper == Paper("cut", total))
        self.assertEqual((Cut([1, [2]]).other, Cut(None).parts), ((1, (2,)), (None,)))

    def test_clear(self):
        for paper in (Clear([1, 2]), Clear(shift=(1, 2))):
            self.assertEqual((paper.word, paper.parts, paper.shift), ("clear", ((1, 2),), (1, 2)))
            self.assertIs(bool(paper), False)
            self.assertIsInstance(paper, Denial)
            self.assertTrue(paper == Clear((1, 2)))
            self.assertFalse(paper == Clear((1, 3)))
            self.assertFalse(paper == Denial("clear", (1, 2)))
        self.assertEqual((Clear("a").shift, Clear(None).parts), ("a", (None,)))


if __name__ == "__main__":
    unittest.main()
