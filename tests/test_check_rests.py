import itertools
import random
import unittest

from screwsums.check_rests import shows_undo_rests
from screwsums.errors import BadNumber, BadSum, TooMany
from screwsums.named import named
from screwsums.papers import Denial, Paper
from screwsums.rests import rests_of
from screwsums.sums import Sum, still_sum
from screwsums.undone import Nought, Undone
from screwsums.undonerests import NoughtRests, UndoneRests, undo_rests
from tests.bending import bent_parts
from tests.downward import DOWN
from tests.plain import BIG, PRIMES, anew, ordered, some_sum
from tests.test_rests import NO_RESTS, told_rests
from tests.test_sums import NO_SUMS, caught
from tests.test_undonerests import fitting, is_told_cut, is_told_undone

LINE, MIRROR, SCREWS = named("line"), named("turned line"), named("two screws")
ONES = Sum(LINE, 2, [(((0,), 0), 1), (((1,), 0), 1), (((2,), 0), 1)])
BENT = Sum(MIRROR, 3, [(((0,), 0), 1), (((1,), 0), 1), (((-1,), 0), -1), (((1,), 1), 1), (((-1,), 1), -1)])
STILL = ((((0,), 0), 1),)
NO_PAPERS = (None, True, False, 0, 1, "undonerests", (), [], {}, object(), UndoneRests, NoughtRests, STILL,
             Paper("undonerests", STILL), Denial("noughtrests", STILL), Undone(still_sum(MIRROR, 3)), Nought(BENT))


class FurtherUndone(UndoneRests):
    """Not made by calling UndoneRests."""


class FurtherNought(NoughtRests):
    """Not made by calling NoughtRests."""


def are_told_terms(total, rest, value):
    """Whether any value, tuples all the way in, is terms by rests."""
    if not isinstance(value, tuple):
        return False
    for term in value:
        if not isinstance(term, tuple) or len(term) != 2 or type(term[1]) is not int or not 0 < term[1] < total.by:
            return False
        motion = term[0]
        if not isinstance(motion, tuple) or len(motion) != 2 or not isinstance(motion[0], tuple):
            return False
        if len(motion[0]) != total.frame.wide or any(type(place) is not int for place in motion[0]):
            return False
        if any(not 0 <= place < rest for place in motion[0]):
            return False
        if type(motion[1]) is not int or not 0 <= motion[1] < total.frame.many:
            return False
    return value == ordered(dict(value), total.by)


def is_told(total, rest, paper):
    if not are_told_terms(total, rest, paper.terms):
        return False
    return (is_told_undone if isinstance(paper, UndoneRests) else is_told_cut)(total, rest, paper.terms)


class ShowsTest(unittest.TestCase):
    def check(self, total, rest, value, right):
        self.assertIs(shows_undo_rests(total, rest, value), right)

    def test_what_undo_rests_returns(self):
        random.seed(1)
        for name, frame, rest in fitting():
            total = some_sum(frame, random.choice(PRIMES), random.randint(0, 9), random.choice((2, BIG)))
            paper = undo_rests(total, rest)
            listed = [[[list(shift), turn], number] for (shift, turn), number in paper.terms]
            for further in (paper, type(paper)(listed)):
                self.check(total, rest, further, True)
                self.check(Sum(anew(frame), total.by, list(total.terms)), rest, further, True)
            self.check(total, rest, (NoughtRests if paper else UndoneRests)(paper.terms), False)
            self.check(total, rest, UndoneRests(()), False)
            self.check(total, rest, NoughtRests(()), False)

    def test_of_the_document(self):
        for terms, right in (([[[[0], 0], 1], [[[1], 0], 1]], True), ([[[[1], 0], 1], [[[2], 0], 1]], True), ([], False),
                             ([[[[1], 0], 1], [[[0], 0], 1]], False), ([[[[0], 0], 1]], False),
                             ([[[[0], 0], 1], [[[0], 0], 1]], False), ([[[[0], 0], 1], [[[4], 0], 1]], False),
                             ([[[[0], 0], 1], [[[1], 0], 1], [[[2], 0], 1]], False),
                             ([[[[0], 0], 1], [[[1], 0], 3]], False), ([[[[0], 0], 1], [[[1], 0], -1]], False),
                             ([[[[0], 0], True], [[[1], 0], 1]], False), ([[[[0], 0], 1], [[[True], 0], 1]], False),
                             ([[[[0], False], 1], [[[1], 0], 1]], False), ([[[[0], 0], 1], [[[-2], 0], 1]], False)):
            self.check(ONES, 3, NoughtRests(terms), right)
            self.check(ONES, 3, UndoneRests(terms), False)
        for terms, right in (([(MIRROR.still, 1)], True), ([(MIRROR.still, -2)], False), ([(((2,), 0), 1)], False),
                             ([[[[0], 0], 1]], True), ([(MIRROR.still, 2)], False), ([(MIRROR.still, 4)], False),
                             ([(((0,), 1), 1)], False), ([(MIRROR.still, 1), (((1,), 0), 3)], False), ([], False),
                             ([(MIRROR.still, 1), (((1,), 0), 0)], False), (None, False), ("ab", False), (STILL[0], False),
                             ({MIRROR.still: 1}, False), ([MIRROR.still], False), ([(MIRROR.still, 1, 1)], False)):
            self.check(BENT, 2, UndoneRests(terms), right)
            self.check(BENT, 2, NoughtRests(terms), False)

    def test_from_which_side(self):
        # What cuts stands ahead of the sum; behind it it may leave terms.
        random.seed(2)
        seen = {True: 0, False: 0}
        for name in ("turned line", "half turns", "triangle", "two screws", "six places"):
            frame = DOWN[name]
            for by in (2, 3, 5):
                for _ in range(6):
                    total = some_sum(frame, by, 4, 1)
                    if frame.many * 2 ** frame.wide > 48 or undo_rests(total, 2):
                        continue
                    # What the flipped sum is cut by, flipped, is what this sum times is none.
                    other = undo_rests(total.flipped(), 2).terms
                    turned = Sum(frame, by, other).flipped()
                    terms = told_rests(by, 2, turned.terms)
                    right = is_told_cut(total, 2, terms)
                    seen[right] += 1
                    self.check(total, 2, NoughtRests(terms), right)
        self.assertGreater(min(seen.values()), 5)

    def test_all_terms(self):
        for total, rest in ((ONES, 3), (ONES, 2), (Sum(MIRROR, 2, [(((0,), 0), 1), (((1,), 1), 1)]), 2),
                            (Sum(MIRROR, 3, [(((0,), 1), 2), (((1,), 1), 1)]), 2), (Sum(LINE, 5, [(((3,), 0), 2)]), 2)):
            frame = total.frame
            motions = [((place,), turn) for turn in range(frame.many) for place in range(rest)]
            for numbers in itertools.product(range(total.by), repeat=len(motions)):
                terms = [(motion, number) for motion, number in zip(motions, numbers) if number]
                for made in (UndoneRests, NoughtRests):
                    self.check(total, rest, made(terms), is_told(total, rest, made(terms)))
                    if len(terms) > 1:
                        self.check(total, rest, made(terms[::-1]), False)

    def test_papers_bent_in_one_place(self):
        random.seed(3)
        seen = {(kind, right): 0 for kind in (UndoneRests, NoughtRests) for right in (True, False)}
        for name, by, rest in (("line", 2, 3), ("turned line", 3, 2), ("two points", 5, 2), ("bottle", 7, 2), ("plane", 13, 3),
                               ("two screws", 2, 2), ("triangle", 3, 2), ("point", 11, 6), ("cyclic 8 0 0", 5, 4)):
            frame = DOWN[name]
            for many in (1, 2, 5):
                total = some_sum(frame, by, many, 2)
                paper = undo_rests(total, rest)
                for parts, odd in bent_parts(paper):
                    bent = type(paper)(*parts)
                    right = is_told(total, rest, bent)
                    self.assertFalse(right and odd)
                    self.check(total, rest, bent, right)
                    seen[(type(paper), right)] += 1
        self.assertGreater(min(seen.values()), 10)

    def test_terms_put_in_another_order(self):
        random.seed(4)
        for name, frame, rest in fitting(24):
            total = some_sum(frame, 3, 5)
            paper = undo_rests(total, rest)
            if len(paper.terms) > 1:
                self.check(total, rest, type(paper)(paper.terms[1:] + paper.terms[:1]), False)
                self.check(total, rest, type(paper)(paper.terms + paper.terms[-1:]), False)
                self.check(total, rest, type(paper)(paper.terms[:1] + paper.terms), False)
            scaled = type(paper)([(motion, number * 2 % 3) for motion, number in paper.terms])
            self.check(total, rest, scaled, not paper)

    def test_other_papers(self):
        undone, cut = UndoneRests([(MIRROR.still, 1)]), NoughtRests([[[[0], 0], 1], [[[1], 0], 1]])
        self.check(BENT, 2, undone, True)
        self.check(ONES, 3, cut, True)
        for value in NO_PAPERS + (FurtherUndone(undone.terms), NoughtRests(undone.terms)):
            self.check(BENT, 2, value, False)
        for value in NO_PAPERS + (FurtherNought(cut.terms), UndoneRests(cut.terms)):
            self.check(ONES, 3, value, False)

    def test_wrong(self):
        for value in (None, UndoneRests(STILL), NoughtRests(STILL)):
            for total in NO_SUMS:
                for rest in (2, 7, None):
                    self.assertEqual(caught(self, BadSum, shows_undo_rests, total, rest, value).part, "total")
            for rest in NO_RESTS:
                for total in (ONES, still_sum(SCREWS, 2), still_sum(DOWN["quaternions"], 3)):
                    self.assertEqual(caught(self, BadNumber, shows_undo_rests, total, rest, value).part, "rest")
            for total, rest in ((still_sum(SCREWS, 2), 3), (still_sum(named("space"), 3), 4),
                                (still_sum(DOWN["quaternions"], 5), 2), (still_sum(named("bottle"), 2), 5)):
                error = caught(self, TooMany, shows_undo_rests, total, rest, value)
                self.assertEqual((error.what, error.most), ("motions", 48))
        self.assertIs(shows_undo_rests(value=UndoneRests(STILL), rest=6, total=still_sum(LINE, 2)), True)
        self.assertEqual(rests_of(still_sum(LINE, 2), 6), STILL)


if __name__ == "__main__":
    unittest.main()
