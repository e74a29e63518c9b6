import random
import time
import unittest

from screwsums.determinants import determinant
from screwsums.errors import BadSum, TooMany
from screwsums.named import named
from screwsums.papers import Denial, Paper
from screwsums.returning import comes_back
from screwsums.sums import Sum, still_sum
from screwsums.undone import Nought, TwoShifts, Undone, undo
from tests.lawful import all_tuples
from tests.plain import (BIG, FRAMES, PRIMES, anew, full_sum, gardam, less_motion, motion_of, powers_sum, shift_of,
                         some_sum, times)
from tests.plain import determinant as told_determinant
from tests.test_determinants import MOST, bound_sums
from tests.test_sums import CHOSEN, NO_SUMS

# What stands for the terms of a determinant of which only is known that it is one term.
ONE_TERM = (None,)


def with_backs():
    """Frames in which some motion comes back, each with the Back of one."""
    for name, frame in FRAMES.items():
        back = comes_back(frame)
        if back:
            yield name, frame, back


def undone_sums(frame, by, back, far=3):
    """Sums that can be undone, though they have many motions."""
    middle = Sum(frame, by, [(motion_of(frame, far), random.randint(1, by - 1))])
    bent = less_motion(frame, by, back.motion).times(middle).times(powers_sum(frame, by, back))
    one = still_sum(frame, by).plus(bent)
    alone = Sum(frame, by, [(motion_of(frame, far), random.randint(1, by - 1))])
    return [one, one.times(alone), alone.times(one).scaled(by - 1), one.flipped()]


class UndoTest(unittest.TestCase):
    def check(self, total, terms=None):
        """The paper, right by multiplying, and of the class that the terms of the determinant tell."""
        paper = undo(total)
        told = told_determinant(total) if terms is None else terms
        self.assertIs(type(paper), (Nought, Undone, TwoShifts)[min(len(told), 2)])
        self.assertTrue(all_tuples(paper.parts))
        if isinstance(paper, TwoShifts):
            self.assertEqual(paper.parts, (told[0][0][0], told[-1][0][0]))
            self.assertLess(paper.low, paper.high)
            return paper
        self.assertIs(type(paper.other), Sum)
        self.assertTrue(paper.other.frame == total.frame)
        self.assertEqual(paper.other.by, total.by)
        if isinstance(paper, Nought):
            self.assertGreater(len(paper.other.terms), 0)
            self.assertEqual(times(paper.other, total), ())
        else:
            still = ((total.frame.still, 1),)
            self.assertEqual((times(paper.other, total), times(total, paper.other)), (still, still))
        return paper

    def test_all_frames(self):
        random.seed(1)
        seen = {Undone: 0, TwoShifts: 0, Nought: 0}
        for name, frame in FRAMES.items():
            if frame.many > 6 and name not in CHOSEN:
                continue
            for by in (PRIMES if frame.many < 5 and name in CHOSEN else (2, 3)):
                for many in range(4):
                    paper = self.check(some_sum(frame, by, many, 1))
                    seen[type(paper)] += 1
        self.assertGreater(min(seen.values()), 30)

    def test_single_motions(self):
        random.seed(2)
        for frame in FRAMES.values():
            for by in PRIMES:
                for number in range(1, by):
                    motion = motion_of(frame, random.choice((2, BIG)))
                    paper = undo(Sum(frame, by, [(motion, number)]))
                    back = [worth for worth in range(by) if worth * number % by == 1]
                    self.assertEqual(paper.other.terms, ((frame.undone(motion), back[0]),))
                    self.assertIs(type(paper), Undone)

    def test_many_motions(self):
        random.seed(3)
        many = 0
        for name, frame, back in with_backs():
            for by in (2, 3, 7):
                for total in undone_sums(frame, by, back, random.choice((1, 4, BIG))):
                    if len(total.terms) <= MOST[frame.many]:
                        many = max(many, len(total.terms))
                        self.assertEqual(self.check(total, ONE_TERM).word, "undone")
        self.assertGreater(many, 5)

    def test_products_and_flipped(self):
        random.seed(4)
        for name, frame, back in with_backs():
            if frame.many > 4:
                continue
            one, other = undone_sums(frame, 3, back)[0], undone_sums(frame, 3, back)[1]
            product = one.times(other)
            if len(product.terms) <= MOST[frame.many]:
                self.assertTrue(undo(product).other == undo(other).other.times(undo(one).other))
            self.assertTrue(undo(one.flipped()).other == undo(one).other.flipped())
            self.assertTrue(undo(one.scaled(2)).other == undo(one).other.scaled(2))
            self.assertTrue(undo(undo(one).other).other == one)

    def test_two_screws(self):
        least = gardam(named("two screws"))
        self.assertEqual(len(least.terms), 21)
        paper = self.check(least, ONE_TERM)
        self.assertEqual(len(paper.other.terms), 21)
        self.assertTrue(undo(paper.other).other == least)
        # By 2 any sign is the same; one term less, and it can't be undone.
        self.assertEqual(self.check(Sum(least.frame, 2, least.terms[1:])).word, "twoshifts")

    def test_frames_in_which_no_motion_comes_back(self):
        random.seed(5)
        for name in ("line", "plane", "space", "bottle", "third screw", "fourth screw", "line beside bottle"):
            frame = FRAMES[name]
            for by in PRIMES:
                for many in (2, 3, 5):
                    total = some_sum(frame, by, many)
                    word = "undone" if len(total.terms) == 1 else "twoshifts"
                    self.assertEqual(self.check(total).word, word)
                self.assertEqual(self.check(Sum(frame, by, [])).word, "nought")

    def test_nought(self):
        random.seed(6)
        for name, frame, back in with_backs():
            for by in (2, 5):
                one, other = less_motion(frame, by, back.motion), powers_sum(frame, by, back)
                some = [Sum(frame, by, [(motion_of(frame, 2), 1)]), some_sum(frame, by, 2, 5)]
                for total in [part for left in (one, other) for alone in some
                              for part in (left, left.times(alone), alone.times(left))]:
                    if len(total.terms) <= MOST[frame.many]:
                        self.assertEqual(self.check(total, ()).word, "nought")
                self.assertEqual(self.check(Sum(frame, by, [])).word, "nought")

    def test_two_shifts(self):
        bottle = named("bottle")
        self.assertEqual(undo(Sum(bottle, 2, [(((3, 0), 0), 1), (((-1, 5), 0), 1)])).parts, ((-2, 0), (6, 0)))
        line = named("line")
        for by in PRIMES:
            paper = undo(Sum(line, by, [(((at,), 0), 1) for at in (5, -3, BIG, 0, -BIG)]))
            self.assertEqual(paper.parts, ((-BIG,), (BIG,)))
        space = named("space")
        paper = undo(Sum(space, 3, [(((1, -9, 4), 0), 1), (((1, -9, 3), 0), 2), (((0, 9, 9), 0), 2)]))
        self.assertEqual((paper.low, paper.high), ((0, 9, 9), (1, -9, 4)))

    def test_wide_0(self):
        random.seed(7)
        for many in range(1, 9):
            frame = FRAMES[f"cyclic {many} 0 0"]
            for by in PRIMES:
                for _ in range(4):
                    total = some_sum(frame, by, random.randint(0, min(many, MOST[many])))
                    paper = self.check(total, determinant(total).terms)
                    self.assertIn(type(paper), (Undone, Nought))

    def test_again_and_by_name(self):
        random.seed(8)
        for name, frame, back in with_backs():
            for total in (undone_sums(frame, 2, back)[1], less_motion(frame, 2, back.motion), some_sum(frame, 2, 4)):
                if len(total.terms) <= MOST[frame.many]:
                    again = Sum(anew(frame), 2, [[[list(at), turn], number] for (at, turn), number in total.terms])
                    self.assertTrue(undo(total=again) == undo(total))
                    self.assertEqual(again.terms, total.terms)

    def test_bounds(self):
        for total in bound_sums():
            frame, most = total.frame, MOST[total.frame.many]
            start = time.perf_counter()
            self.assertIn(undo(total).word, ("twoshifts", "undone"))
            self.assertLess(time.perf_counter() - start, 10)
            with self.assertRaises(TooMany) as caught:
                undo(full_sum(frame, 2, most + 1, BIG, [0]))
            self.assertEqual((caught.exception.what, caught.exception.most), ("terms", most))

    def test_undone_and_nought_at_the_bounds(self):
        random.seed(9)
        seen = {"undone": 0, "nought": 0}
        for name, frame, back in with_backs():
            most = MOST[frame.many]
            for far in (5, BIG):
                for by in (2, 13):
                    one, other = less_motion(frame, by, back.motion), powers_sum(frame, by, back)
                    bent, none = still_sum(frame, by), Sum(frame, by, [])
                    for _ in range(most):
                        alone = Sum(frame, by, [((shift_of(frame, far), random.choice((0, frame.many - 1))), 1)])
                        further = bent.plus(one.times(alone).times(other))
                        bent = further if len(further.terms) <= most else bent
                        further = none.plus(alone.times(one))
                        none = further if len(further.terms) <= most else none
                    for total, word in ((bent, "undone"), (none, "nought")):
                        start = time.perf_counter()
                        paper = undo(total)
                        self.assertLess(time.perf_counter() - start, 10)
                        self.assertEqual(paper.word, word)
                        told = ((frame.still, 1),) if paper else ()
                        self.assertEqual(paper.other.times(total).terms, told)
                        self.assertGreater(len(paper.other.terms), 0)
                        seen[word] = max(seen[word], len(total.terms))
        self.assertGreater(min(seen.values()), 190)

    def test_no_sum(self):
        for value in NO_SUMS:
            with self.assertRaises(BadSum) as caught:
                undo(value)
            self.assertEqual(caught.exception.part, "total")


class PapersTest(unittest.TestCase):
    def test_undone_and_nought(self):
        total = still_sum(named("line"), 2)
        for made, word, truth in ((Undone, "undone", True), (Nought, "nought", False)):
            for paper in (made(total), made(other=total)):
                self.assertEqual((paper.word, len(paper.parts)), (word, 1))
                self.assertTrue(paper.other == total and paper.parts == (total,))
                self.assertIs(bool(paper), truth)
                self.assertIs(isinstance(paper, Denial), not truth)
                self.assertTrue(paper == made(still_sum(named("line"), 2)))
                self.assertFalse(paper == made(still_sum(named("line"), 3)))
                self.assertFalse(paper == (Paper if truth else Denial)(word, total))
            self.assertEqual((made([1, [2]]).other, made(None).parts), ((1, (2,)), (None,)))
        self.assertFalse(Undone(total) == Nought(total))

    def test_two_shifts(self):
        for paper in (TwoShifts([1], [2]), TwoShifts(high=(2,), low=[1]), TwoShifts((1,), high=(2,))):
            self.assertEqual((paper.word, paper.parts), ("twoshifts", ((1,), (2,))))
            self.assertEqual((paper.low, paper.high), ((1,), (2,)))
            self.assertIs(bool(paper), False)
            self.assertIsInstance(paper, Denial)
            self.assertTrue(paper == TwoShifts((1,), (2,)))
            self.assertFalse(paper == TwoShifts((2,), (1,)))
        self.assertEqual(TwoShifts("a", None).parts, ("a", None))


if __name__ == "__main__":
    unittest.main()
