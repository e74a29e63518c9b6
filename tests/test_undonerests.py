import itertools
import random
import time
import unittest

from screwsums.cut import Cut, cut
from screwsums.errors import BadNumber, BadSum, TooMany
from screwsums.named import named
from screwsums.papers import Denial, Paper
from screwsums.rests import rests_of
from screwsums.sums import Sum, still_sum
from screwsums.undone import Undone, undo
from screwsums.undonerests import NoughtRests, UndoneRests, undo_rests
from tests.downward import DOWN
from tests.lawful import all_tuples
from tests.plain import BIG, FRAMES, PRIMES, anew, less_motion, motion_of, powers_sum, some_sum
from tests.test_determinants import MOST
from tests.test_rests import NO_RESTS, RESTS, told_product, told_rests
from tests.test_sums import CHOSEN, NO_SUMS, caught
from tests.test_undone import undone_sums, with_backs

LINE, MIRROR, SCREWS = named("line"), named("turned line"), named("two screws")


def how_many(frame, rest):
    return frame.many * rest ** frame.wide


def is_told_undone(total, rest, terms):
    still = ((total.frame.still, 1),)
    own = told_rests(total.by, rest, total.terms)
    return (told_product(total.frame, total.by, rest, terms, own) == still
            and told_product(total.frame, total.by, rest, own, terms) == still)


def is_told_cut(total, rest, terms):
    own = told_rests(total.by, rest, total.terms)
    return len(terms) > 0 and told_product(total.frame, total.by, rest, terms, own) == ()


def fitting(most=48):
    """Frames, each with the rests by which it has at most so many motions."""
    for name, frame in DOWN.items():
        for rest in RESTS:
            if how_many(frame, rest) <= most:
                yield name, frame, rest


class UndoRestsTest(unittest.TestCase):
    def check(self, total, rest):
        paper = undo_rests(total, rest)
        self.assertIn(type(paper), (UndoneRests, NoughtRests))
        self.assertTrue(all_tuples(paper.parts))
        terms = paper.terms
        self.assertEqual(terms, told_rests(total.by, rest, terms))
        self.assertTrue(all(0 <= place < rest for (shift, _), _ in terms for place in shift))
        self.assertTrue((is_told_undone if type(paper) is UndoneRests else is_told_cut)(total, rest, terms))
        return paper

    def test_all_frames(self):
        random.seed(1)
        seen = {UndoneRests: 0, NoughtRests: 0}
        for name, frame, rest in fitting():
            for many in (random.randint(0, 2), random.randint(1, 9)):
                total = some_sum(frame, random.choice(PRIMES), many)
                paper = self.check(total, rest)
                seen[type(paper)] += 1
                again = Sum(anew(frame), total.by, [[[list(shift), turn], number] for (shift, turn), number in total.terms])
                self.assertTrue(undo_rests(rest=rest, total=again) == paper)
        self.assertGreater(min(seen.values()), 100)

    def test_each_prime_at_48_motions(self):
        random.seed(2)
        most = [(name, frame, rest) for name, frame, rest in fitting() if how_many(frame, rest) == 48]
        self.assertGreater(len(most), 3)
        seen = {UndoneRests: 0, NoughtRests: 0}
        for by in PRIMES:
            for name, frame, rest in random.sample(most, 3):
                total = some_sum(frame, by, 40, 20)
                start = time.perf_counter()
                paper = self.check(total, rest)
                self.assertLess(time.perf_counter() - start, 6)
                seen[type(paper)] += 1
        self.assertEqual(sum(seen.values()), 18)

    def test_more_motions(self):
        for name, frame in DOWN.items():
            for rest in RESTS:
                total = Sum(frame, 3, [(frame.still, 2)])
                if how_many(frame, rest) <= 48:
                    self.assertTrue(undo_rests(total, rest) == UndoneRests([(frame.still, 2)]))
                    continue
                error = caught(self, TooMany, undo_rests, total, rest)
                self.assertEqual((error.what, error.most), ("motions", 48))
        self.assertEqual(how_many(SCREWS, 2), 32)
        self.assertEqual(how_many(SCREWS, 3), 108)

    def test_no_terms(self):
        for name, frame, rest in fitting():
            paper = self.check(Sum(frame, 5, []), rest)
            self.assertIs(type(paper), NoughtRests)
        # Terms that go out by rests.
        total = Sum(LINE, 2, [(((0,), 0), 1), (((6,), 0), 1)])
        for rest in (2, 3, 6):
            self.assertIs(type(self.check(total, rest)), NoughtRests)
        self.assertEqual(rests_of(total, 4), ((((0,), 0), 1), (((2,), 0), 1)))

    def test_single_motions(self):
        random.seed(3)
        for name, frame, rest in fitting():
            for far in (2, BIG):
                by = random.choice(PRIMES)
                motion, number = motion_of(frame, far), random.randint(1, by - 1)
                paper = self.check(Sum(frame, by, [(motion, number)]), rest)
                self.assertIs(type(paper), UndoneRests)
                back = undo(Sum(frame, by, [(motion, number)])).other
                self.assertEqual(paper.terms, rests_of(back, rest))

    def test_what_can_be_undone(self):
        # What undoes a sum undoes it by rests, taken by rests; so what is cut by rests can't be undone.
        random.seed(4)
        seen = 0
        for name, frame, back in with_backs():
            for total in undone_sums(frame, random.choice((2, 3, 5)), back, 2):
                for rest in RESTS:
                    if how_many(frame, rest) > 48 or len(total.terms) > MOST[frame.many]:
                        continue
                    other = undo(total)
                    self.assertIs(type(other), Undone)
                    paper = self.check(total, rest)
                    self.assertTrue(paper == UndoneRests(rests_of(other.other, rest)))
                    seen += 1
        self.assertGreater(seen, 80)

    def test_what_is_cut(self):
        random.seed(5)
        seen = 0
        for name, frame, back in with_backs():
            for total in (less_motion(frame, 3, back.motion), powers_sum(frame, 3, back)):
                if len(total.terms) <= MOST[frame.many]:
                    self.assertIs(type(cut(total)), Cut)
                for rest in RESTS:
                    if how_many(frame, rest) <= 48:
                        self.assertIs(type(self.check(total, rest)), NoughtRests)
                        seen += 1
        self.assertGreater(seen, 60)

    def test_undone_by_rests_alone(self):
        ones = Sum(LINE, 2, [(((0,), 0), 1), (((1,), 0), 1), (((2,), 0), 1)])
        self.assertEqual([self.check(ones, rest).word for rest in RESTS],
                         ["undonerests", "noughtrests", "undonerests", "undonerests", "noughtrests"])
        self.assertEqual(undo(ones).word, "twoshifts")
        self.assertEqual(self.check(ones, 2).terms, ((((1,), 0), 1),))
        half = Sum(SCREWS, 2, [(SCREWS.still, 1), (((0, 0, 0), 1), 1)])
        self.assertIs(bool(self.check(half, 2)), False)
        bent = Sum(MIRROR, 3, [(((0,), 0), 1), (((1,), 0), 1), (((-1,), 0), -1), (((1,), 1), 1), (((-1,), 1), -1)])
        self.assertEqual(self.check(bent, 3).terms,
                         ((((0,), 0), 1), (((1,), 0), 2), (((2,), 0), 1), (((1,), 1), 2), (((2,), 1), 1)))
        self.assertTrue(self.check(bent, 2) == UndoneRests([(MIRROR.still, 1)]))

    def test_every_sum_of_few_motions(self):
        # By 2, of a frame of four motions by rests, and by 3 of one of three.
        for frame, by, rest in ((MIRROR, 2, 2), (LINE, 3, 3), (DOWN["cyclic 3 0 0"], 2, 4), (LINE, 2, 5)):
            motions = [(shift, turn) for turn in range(frame.many)
                       for shift in itertools.product(range(rest), repeat=frame.wide)]
            every = [tuple((motion, number) for motion, number in zip(motions, numbers) if number)
                     for numbers in itertools.product(range(by), repeat=len(motions))]
            for terms in every:
                total = Sum(frame, by, terms)
                paper = self.check(total, rest)
                undoing = [further for further in every if is_told_undone(total, rest, further)]
                self.assertEqual(undoing, [paper.terms] if paper else [])

    def test_the_same_call_again(self):
        random.seed(6)
        for name in ("two screws", "bottle", "half turns", "turned line", "cyclic 8 1 5"):
            frame = FRAMES[name]
            total = some_sum(frame, 3, 6)
            again = Sum(anew(frame), 3, [[list(motion), number] for motion, number in total.terms])
            other = Sum(frame, 3, list(reversed([(motion, number - 3) for motion, number in total.terms])))
            for further in (total, again, other):
                self.assertTrue(undo_rests(further, 2) == undo_rests(total, 2))

    def test_wrong(self):
        for total in NO_SUMS:
            for rest in (2, 7, None):
                self.assertEqual(caught(self, BadSum, undo_rests, total, rest).part, "total")
        for rest in NO_RESTS:
            for total in (still_sum(LINE, 2), still_sum(SCREWS, 2), still_sum(DOWN["quaternions"], 3)):
                self.assertEqual(caught(self, BadNumber, undo_rests, total, rest).part, "rest")


class PapersTest(unittest.TestCase):
    def test_both(self):
        for made, word, truth in ((UndoneRests, "undonerests", True), (NoughtRests, "noughtrests", False)):
            for paper in (made([[[[1], 0], 2]]), made(terms=((((1,), 0), 2),))):
                self.assertEqual((paper.word, paper.parts, paper.terms),
                                 (word, (((((1,), 0), 2),),), ((((1,), 0), 2),)))
                self.assertIs(bool(paper), truth)
                self.assertIsInstance(paper, Paper)
                self.assertIs(isinstance(paper, Denial), not truth)
                self.assertTrue(paper == made([(((1,), 0), 2)]))
                self.assertFalse(paper == made([(((1,), 0), 1)]))
                self.assertFalse(paper == (Paper if truth else Denial)(word, [(((1,), 0), 2)]))
            self.assertEqual((made("a").terms, made(None).parts), ("a", (None,)))
        self.assertFalse(UndoneRests(()) == NoughtRests(()))


if __name__ == "__main__":
    unittest.main()
