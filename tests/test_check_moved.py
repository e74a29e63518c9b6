import random
import unittest

from screwsums.check_moved import shows_moved
from screwsums.errors import BadFrame, Misfit, TooMany
from screwsums.frames import Frame
from screwsums.moved import Moved, moved, start_between
from screwsums.named import named
from screwsums.papers import Denial, Paper
from screwsums.returning import Away
from screwsums.wholes import Barred, Whole
from tests.bending import bent_parts
from tests.downward import DOWN
from tests.lawful import NO_FRAMES, cyclic, flat
from tests.plain import BIG, anew
from tests.test_moved import NO_STARTS, is_told_barred, is_told_moved, pairs_alike, starts_of

BOTTLE, SCREWS = named("bottle"), named("two screws")
TOLD = moved(BOTTLE, [(0, 0), (1, 4)])
STAIR, DOUBLE, FLAT = [Frame(*cyclic(2, 1, climb)) for climb in (1, 4, 0)]
NO_PAPERS = (None, True, False, 0, "moved", (), [], {}, object(), Moved, Barred, (((0, 0), (1, 4)),), ((0, 0, 0, 1), 2),
             Paper("moved", ((0, 0), (1, 4))), Denial("barred", (0, 0, 0, 1), 2), Whole(((0, 0), (1, 4))), Away(()))


class FurtherMoved(Moved):
    """Not made by calling Moved."""


class FurtherBarred(Barred):
    """Not made by calling Barred."""


class ShowsMovedTest(unittest.TestCase):
    def check(self, frame, other, value, right):
        self.assertIs(shows_moved(frame, other, value), right)

    def test_what_start_between_returns(self):
        for one, other in pairs_alike():
            paper = start_between(one, other)
            self.check(one, other, paper, True)
            self.check(anew(one), anew(other), type(paper)(*[
                [list(part) if isinstance(part, tuple) else part for part in whole] if isinstance(whole, tuple) else whole
                for whole in paper.parts]), True)

    def test_moved_of_any_starts(self):
        for starts, right in (([[0, 0], [1, -3]], True), ([[0, 0], [1, BIG]], True), (((0, 0), [1, 4]), True),
                              ([[0, 0], [2, 0]], False), ([[0, 0], [0, 4]], False), ([[0, 0], [-1, 4]], False)):
            self.check(BOTTLE, TOLD, Moved(starts), right)
            self.check(TOLD, BOTTLE, Moved([[-place for place in start] for start in starts]), right)
        random.seed(1)
        for name, frame in DOWN.items():
            if frame.many <= 4:
                starts = starts_of(frame, random.choice((3, BIG)))
                self.check(frame, moved(frame, starts), Moved(starts), True)
                self.check(frame, frame, Moved([(0,) * frame.wide] * frame.many), True)
                if frame.wide:
                    starts[0] = (1,) * frame.wide
                    self.check(frame, moved(frame, [(0,) * frame.wide] + starts[1:]), Moved(starts), False)

    def test_no_starts(self):
        for starts in NO_STARTS:
            self.check(BOTTLE, TOLD, Moved(starts), False)
            self.check(BOTTLE, BOTTLE, Moved(starts), False)

    def test_barred(self):
        for row, modulus, right in (([0, 0, 0, 1], 2, True), ([5, 0, 1, 3], 2, True), ((0, 0, 0, BIG), 2, True),
                                    ([0, 0, 0, 2], 4, True), ([0, 0, 0, -2], 4, True), ([0, 0, 0, BIG], 2 * BIG, True),
                                    ([0, 0, 0, 1], 3, False), ([0, 0, 0, 2], 2, False), ([0, 0, 0, 1], 4, False),
                                    ([0, 0, 0, 0], 2, False), ([0, 0, 0, 1], 1, False), ([0, 0, 0, 1], 0, False),
                                    ([0, 0, 0, 1], -2, False), ([0, 0, 0, 1], True, False), ([0, 0, 0, 1], None, False),
                                    ([0, 0, 0, 1], 2.0, False), ([0, 0, 0, True], 2, False), ([0, 0, False, 1], 2, False),
                                    ([0, 0, 1], 2, False), ([1], 2, False), ([0, 0, 0, 0, 1], 2, False), ([], 2, False),
                                    ([[0], [0], [0], [1]], 2, False), ("0001", 2, False), (None, 2, False)):
            self.check(STAIR, FLAT, Barred(row, modulus), right)
            self.check(FLAT, STAIR, Barred(row, modulus), right)
            self.check(FLAT, DOUBLE, Barred(row, modulus), False)

    def test_a_row_that_takes_starts_away(self):
        # Turn 1 twice is turn 2 in a ring of three: their starts are taken together.
        one, other = Frame(*cyclic(3, 1, 0)), Frame(*cyclic(3, 1, 1))
        for row in ((0, 0, 0, 0, 1, 1, 0, 0, 0), (0, 0, 0, 0, -1, 2, 0, 0, 0), (0, 0, 0, 0, 1, 0, 0, 1, 0),
                    (0, 0, 0, 0, 2, 1, 0, 1, 0), (7, 1, 0, 0, 1, 1, 0, 0, 0), (0, 0, 0, 0, 0, 1, 0, 0, 1)):
            for modulus in (-3, 0, 1, 2, 3, 6, 9):
                self.check(one, other, Barred(row, modulus), is_told_barred(one, other, row, modulus))
        self.check(one, other, Barred((0, 0, 0, 0, 1, 1, 0, 0, 0), 3), True)

    def test_papers_bent_in_one_place(self):
        still = Frame(*flat(3, SCREWS.squares[1:3]))
        seen = {True: 0, False: 0}
        for frame, other in ((BOTTLE, TOLD), (STAIR, FLAT), (FLAT, DOUBLE), (SCREWS, still), (SCREWS, SCREWS),
                             (Frame(*cyclic(3, 1, 0)), Frame(*cyclic(3, 1, 1))), (DOWN["line"], DOWN["line"]),
                             (DOWN["cyclic 3 0 0"], DOWN["cyclic 3 0 0"]), (DOWN["third screw"],) * 2):
            paper = start_between(frame, other)
            told = is_told_moved if isinstance(paper, Moved) else is_told_barred
            for parts, odd in bent_parts(paper):
                bent = type(paper)(*parts)
                right = told(frame, other, *bent.parts)
                self.assertFalse(right and odd)
                self.check(frame, other, bent, right)
                seen[right] += 1
        self.assertGreater(min(seen.values()), 30)

    def test_other_papers(self):
        for value in NO_PAPERS + (FurtherMoved([(0, 0), (1, 4)]), Barred([(0, 0), (1, 4)], 2)):
            self.check(BOTTLE, TOLD, value, False)
        for value in NO_PAPERS + (FurtherBarred((0, 0, 0, 1), 2), Moved((0, 0, 0, 1))):
            self.check(STAIR, FLAT, value, False)


class WrongTest(unittest.TestCase):
    def check(self, kind, part, frame, other):
        for value in (None, Moved([(0, 0), (1, 4)]), Barred((0,) * 8, 2)):
            with self.assertRaises(kind) as caught:
                shows_moved(frame, other, value)
            self.assertIs(type(caught.exception), kind)
            self.assertEqual(caught.exception.part, part)

    def test_as_start_between(self):
        for value in NO_FRAMES:
            self.check(BadFrame, "frame", value, BOTTLE)
            self.check(BadFrame, "frame", value, value)
            self.check(BadFrame, "other", BOTTLE, value)
        for one, other, part in ((BOTTLE, STAIR, "wide"), (DOWN["mirrors"], STAIR, "wide"),
                                 (DOWN["line"], STAIR, "turns"), (SCREWS, DOWN["mirrors"], "turns"),
                                 (STAIR, DOWN["turned line"], "squares"),
                                 (DOWN["cyclic 6 2 0"], DOWN["six turns"], "squares")):
            self.check(Misfit, part, one, other)
            self.check(Misfit, part, other, one)
        for name in ("quaternions", "cyclic 5 0 0", "six turns", "mirrors"):
            with self.assertRaises(TooMany) as caught:
                shows_moved(value=None, other=DOWN[name], frame=anew(DOWN[name]))
            self.assertEqual((caught.exception.what, caught.exception.most), ("turns", 4))


if __name__ == "__main__":
    unittest.main()
