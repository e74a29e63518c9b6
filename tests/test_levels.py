import random
import time
import unittest

from screwsums.errors import BadFrame, BadNumber, Misfit
from screwsums.frames import Frame
from screwsums.heights import height, heights
from screwsums.levels import Level, level
from screwsums.named import beside, named
from screwsums.papers import Denial, Paper
from tests.downward import (CYCLIC, DOWN, is_told_basis, told_height, told_in_level, told_level, told_step,
                            turns_of_height_0)
from tests.lawful import NO_FRAMES, all_tuples
from tests.plain import BIG, anew, motion_of
from tests.test_heights import NO_ROWS_OF_BOTTLE

BOTTLE = named("bottle")


def rows_of(frame):
    """Some rows of a frame that are not 0s: those of a basis, their negatives, taken more often, added up."""
    basis = heights(frame)
    rows = [tuple(often * place for place in row) for row in basis for often in (1, -1, 2, 3, BIG)]
    if len(basis) > 1:
        rows.append(tuple(sum(places) for places in zip(*basis)))
        rows.append(tuple(2 * one - 3 * other for one, other in zip(basis[0], basis[-1])))
    return rows


class LevelTest(unittest.TestCase):
    def check(self, frame, row):
        paper = level(frame, row)
        self.assertIs(type(paper), Level)
        self.assertTrue(all_tuples(paper.parts))
        self.assertEqual(paper.parts[1:], (paper.shifts, paper.motions))
        self.assertTrue(is_told_basis(row, paper.shifts))
        self.assertEqual([turn for _, turn in paper.motions], turns_of_height_0(frame, row))
        self.assertEqual(paper.motions[0], frame.still)
        self.assertEqual({told_height(frame, row, motion) for motion in paper.motions}, {0})
        self.assertTrue(paper.frame == told_level(frame, paper.shifts, paper.motions))
        self.assertTrue(paper.frame == told_step(frame, (row, paper.shifts, paper.motions)))
        self.assertTrue(level(anew(frame), list(row)) == paper)
        return paper

    def test_all_frames(self):
        seen = set()
        for name, frame in DOWN.items():
            for row in rows_of(frame):
                with self.subTest(name=name, row=row):
                    paper = self.check(frame, row)
                    seen.add((paper.frame.wide, paper.frame.many))
        self.assertEqual({wide for wide, _ in seen}, {0, 1, 2})
        self.assertGreater(len({many for _, many in seen}), 5)

    def test_turns_by_the_climb(self):
        # Turn c is c parts of a shift by climb, of many parts: its height is climb times c more.
        for (many, climb), frame in CYCLIC.items():
            for row in ((1,), (-1,), (2,), (3,)):
                paper = self.check(frame, row)
                turns = [turn for turn in range(many) if climb * turn % many == 0]
                self.assertEqual([turn for _, turn in paper.motions], turns)
                self.assertEqual([shift for (shift,), _ in paper.motions], [-climb * turn // many for turn in turns])
                self.assertEqual((paper.frame.wide, paper.frame.many, paper.shifts), (0, len(turns), ()))

    def test_rows_taken_more_often(self):
        for name, frame in DOWN.items():
            for row in heights(frame):
                turns = [turn for _, turn in level(frame, row).motions]
                for often in (-1, 2, 3, -6, BIG):
                    paper = level(frame, [often * place for place in row])
                    self.assertEqual([turn for _, turn in paper.motions], turns)
                    self.assertTrue(is_told_basis(row, paper.shifts))

    def test_motions_told_in_the_level(self):
        random.seed(1)
        for name, frame in DOWN.items():
            for row in rows_of(frame)[:3]:
                paper = level(frame, row)
                some = []
                for _ in range(8):
                    shift, turn = random.choice(paper.motions)
                    for own in paper.shifts:
                        often = random.randint(-9, 9)
                        shift = tuple(place + often * step for place, step in zip(shift, own))
                    some.append((shift, turn))
                told = [told_in_level(paper.shifts, paper.motions, motion) for motion in some]
                for one, left in zip(some, told):
                    self.assertEqual(height(frame, row, one), 0)
                    for other, right in zip(some, told):
                        self.assertEqual(told_in_level(paper.shifts, paper.motions, frame.times(one, other)),
                                         paper.frame.times(left, right))

    def test_of_the_document(self):
        told = level(BOTTLE, (1, 0))
        self.assertTrue(told.frame == named("line"))
        self.assertEqual((told.motions, level(BOTTLE, (-2, 0)).motions), ((((0, 0), 0),),) * 2)
        self.assertIn(told.shifts, (((0, 1),), ((0, -1),)))
        mixed = beside(named("line"), named("turned line"))
        self.assertTrue(level(mixed, (1, 0)).frame == named("turned line"))
        self.assertTrue(level(row=[3, 0], frame=mixed).frame == named("turned line"))

    def test_long_integers(self):
        random.seed(2)
        space, plane = named("space"), named("plane")
        start = time.perf_counter()
        for _ in range(50):
            for frame in (space, plane):
                row = motion_of(frame, BIG)[0]
                if any(row):
                    self.check(frame, row)
        for row in ((0, 0, 1), (0, BIG, 0), (-BIG, 0, 0), (6, 10, 15), (2 * BIG, 4 * BIG, 0), (0, 12, -18)):
            self.check(space, row)
        self.assertLess(time.perf_counter() - start, 10)

    def test_wrong(self):
        for frame in NO_FRAMES:
            for row in ((1, 0), (0, 0), None):
                with self.assertRaises(BadFrame) as caught:
                    level(frame, row)
                self.assertEqual(caught.exception.part, "frame")
        for row in NO_ROWS_OF_BOTTLE:
            with self.assertRaises(BadNumber) as caught:
                level(BOTTLE, row)
            self.assertEqual(caught.exception.part, "row")
        for name, frame in DOWN.items():
            for row in ((0,) * frame.wide, [0] * frame.wide):
                with self.assertRaises(Misfit) as error:
                    level(frame, row)
                self.assertEqual(error.exception.part, "row")
        for row in ((1,), (False,), None, (), (0, 0)):
            with self.assertRaises(BadNumber):
                level(named("turned line"), row)


class PaperTest(unittest.TestCase):
    def test_level(self):
        line = named("line")
        for paper in (Level(line, [[0, 1]], [[[0, 0], 0]]), Level(motions=(((0, 0), 0),), frame=line, shifts=[(0, 1)])):
            self.assertEqual((paper.word, paper.shifts, paper.motions), ("level", ((0, 1),), (((0, 0), 0),)))
            self.assertTrue(paper.frame == line and paper.parts == (line, ((0, 1),), (((0, 0), 0),)))
            self.assertIs(bool(paper), True)
            self.assertNotIsInstance(paper, Denial)
            self.assertTrue(paper == Level(Frame(1, [[0]], [[[1]]], [[[0]]]), ((0, 1),), [((0, 0), 0)]))
            self.assertFalse(paper == Level(line, ((0, -1),), [((0, 0), 0)]))
            self.assertFalse(paper == Paper("level", line, ((0, 1),), (((0, 0), 0),)))
        self.assertEqual(Level(None, "a", [[]]).parts, (None, "a", ((),)))


if __name__ == "__main__":
    unittest.main()
