import itertools
import random
import time
import unittest

from screwsums.errors import BadFrame, BadLot, BadMotion, BadPaper
from screwsums.frames import Frame
from screwsums.heights import heights
from screwsums.ladders import Ladder, Stuck, ascending, ladder_of, sign_of
from screwsums.levels import level
from screwsums.named import beside, named
from screwsums.papers import Denial, Paper
from screwsums.returning import comes_back
from tests.downward import CYCLIC, DOWN, is_told_ladder, is_told_stuck, told_height, told_in_level, told_step
from tests.lawful import NAMES, NO_FRAMES, NO_ROWS, all_tuples
from tests.plain import BIG, anew, motion_of
from tests.test_heights import NO_MOTIONS

BOTTLE = named("bottle")
GLIDE = ((0, 0), 1)
RUNGS = Ladder([((1, 0), [(0, 1)], [((0, 0), 0)]), ((1,), (), [((0,), 0)])])
NO_LADDERS = (None, True, 0, "ladder", (), [], {}, object(), Ladder, RUNGS.parts, RUNGS.steps, Stuck(RUNGS.steps),
              Paper("ladder", RUNGS.steps), Denial("stuck", ()), Ladder(()), Ladder(None), Ladder("ab"), Ladder(RUNGS),
              Ladder({0: RUNGS.steps[0], 1: RUNGS.steps[1]}), Ladder(RUNGS.steps[:1]), Ladder(RUNGS.steps[1:]),
              Ladder(RUNGS.steps[::-1]), Ladder(RUNGS.steps + RUNGS.steps[1:]), Ladder(RUNGS.steps[:1] + RUNGS.steps),
              Ladder(RUNGS.steps * 2), Ladder((((0, 0), [(0, 1)], [((0, 0), 0)]), RUNGS.steps[1])),
              Ladder((((1, 0), [(0, 2)], [((0, 0), 0)]), RUNGS.steps[1])),
              Ladder((((1, 0), [(0, 1)], [((0, 0), 0), ((0, 0), 1)]), RUNGS.steps[1])))


class Further(Ladder):
    """Not made by calling Ladder."""


def told_sign(frame, steps, motion):
    """The sign by what the motion is told as in each level."""
    for row, shifts, motions in steps:
        found = told_height(frame, row, motion)
        if found:
            return 1 if found > 0 else -1
        motion = told_in_level(shifts, motions, motion)
        frame = told_step(frame, (row, shifts, motions))
    return 0


def told_otherwise(frame):
    """A way down told otherwise: rows taken more often, bases turned about, other motions."""
    steps = []
    while heights(frame):
        row = tuple(-2 * place for place in heights(frame)[-1])
        shifts = list(level(frame, row).shifts)[::-1]
        if len(shifts) == 2:
            shifts[0] = tuple(one - 3 * other for one, other in zip(*shifts))
        motions = [level(frame, row).motions[0]]
        for shift, turn in level(frame, row).motions[1:]:
            motions.append((tuple(map(sum, zip(shift, *shifts))), turn))
        steps.append((row, tuple(shifts), tuple(motions)))
        frame = told_step(frame, steps[-1])
    return tuple(steps)


class LadderOfTest(unittest.TestCase):
    def check(self, frame):
        paper = ladder_of(frame)
        self.assertIn(type(paper), (Ladder, Stuck))
        self.assertTrue(all_tuples(paper.parts))
        told = is_told_ladder if type(paper) is Ladder else is_told_stuck
        self.assertIs(told(frame, paper.steps), True)
        self.assertTrue(ladder_of(frame=anew(frame)) == paper)
        return paper

    def test_all_frames(self):
        seen = {Ladder: 0, Stuck: 0}
        for name, frame in DOWN.items():
            with self.subTest(name=name):
                paper = self.check(frame)
                seen[type(paper)] += 1
                if paper:
                    self.assertEqual(len(paper.steps), frame.wide)
                    self.assertEqual(comes_back(frame).word, "away")
                # All ways down come to the same kind of end.
                told = is_told_ladder if paper else is_told_stuck
                self.assertIs(told(frame, told_otherwise(frame)), True)
        self.assertGreater(min(seen.values()), 20)

    def test_words(self):
        for word in NAMES:
            paper = self.check(named(word))
            self.assertIs(bool(paper), word not in ("turned line", "half turns", "two screws"))
            if not paper:
                self.assertEqual(paper.parts, ((),))
        for one, other, words in (("line", "line", "ladder"), ("line", "turned line", "stuck"),
                                  ("turned line", "line", "stuck"), ("bottle", "line", "ladder"),
                                  ("turned line", "bottle", "stuck"), ("turned line", "turned line", "stuck"),
                                  ("line", "half turns", "stuck"), ("plane", "line", "ladder")):
            paper = self.check(beside(named(one), named(other)))
            self.assertEqual(paper.word, words)
        self.assertEqual(len(self.check(beside(named("line"), named("turned line"))).steps), 1)
        self.assertEqual(len(self.check(beside(named("line"), named("half turns"))).steps), 1)

    def test_two_screws_told_otherwise(self):
        for name in ("two screws", "moved two screws", "two screws told otherwise 2"):
            self.assertTrue(self.check(DOWN[name]) == Stuck(()))

    def test_wide_0(self):
        self.assertTrue(self.check(Frame(0, [[0]], [[]], [[[]]])) == Ladder([]))
        for many in range(2, 9):
            self.assertTrue(self.check(DOWN[f"cyclic {many} 0 0"]) == Stuck([]))

    def test_turns_by_the_climb(self):
        # All turns are parts of one shift exactly if none of them, less a whole number of shifts, is still.
        for (many, climb), frame in CYCLIC.items():
            paper = self.check(frame)
            self.assertIs(bool(paper), all(climb * turn % many for turn in range(1, many)))
            self.assertEqual(len(paper.steps), 1)

    def test_no_frame(self):
        for value in NO_FRAMES:
            with self.assertRaises(BadFrame) as caught:
                ladder_of(value)
            self.assertEqual(caught.exception.part, "frame")


def with_ladders():
    """Frames that have ladders, each with two of them."""
    for name, frame in DOWN.items():
        paper = ladder_of(frame)
        if paper:
            for further in (paper, Ladder(told_otherwise(frame))):
                yield name, frame, further


def some_motions(frame, many, far=1):
    return [frame.still] + [motion_of(frame, random.choice((far, far, BIG))) for _ in range(many)]


class SignTest(unittest.TestCase):
    def test_as_told(self):
        random.seed(1)
        seen = {-1: 0, 0: 0, 1: 0}
        for name, frame, ladder in with_ladders():
            for motion in some_motions(frame, 12):
                found = sign_of(frame, ladder, motion)
                self.assertIs(type(found), int)
                self.assertEqual(found, told_sign(frame, ladder.steps, motion))
                self.assertEqual(found == 0, motion == frame.still)
                self.assertEqual(sign_of(frame, ladder, [list(motion[0]), motion[1]]), found)
                seen[found] += 1
        self.assertGreater(min(seen.values()), 50)

    def test_undone_and_products(self):
        random.seed(2)
        for name, frame, ladder in with_ladders():
            some = some_motions(frame, 6)
            signs = [sign_of(frame, ladder, motion) for motion in some]
            for (one, left), (other, right) in itertools.product(zip(some, signs), repeat=2):
                self.assertEqual(sign_of(frame, ladder, frame.undone(one)), -left)
                if left * right >= 0:
                    self.assertEqual(sign_of(frame, ladder, frame.times(one, other)), left or right)

    def test_of_the_document(self):
        for motion, sign in ((GLIDE, 1), (((-1, 9), 1), -1), (((0, -2), 0), -1), (((0, 2), 0), 1), (((0, 0), 0), 0)):
            self.assertEqual(sign_of(motion=motion, ladder=RUNGS, frame=BOTTLE), sign)
        down = Ladder([((-1, 0), [(0, 1)], [((0, 0), 0)]), ((-1,), (), [((0,), 0)])])
        about = Ladder([((3, 0), [(0, -1)], [((0, 0), 0)]), ((1,), (), [((0,), 0)])])
        for motion in ((GLIDE), ((-1, 9), 1), ((0, -2), 0), ((0, 0), 0)):
            self.assertEqual(sign_of(BOTTLE, down, motion), -sign_of(BOTTLE, RUNGS, motion))
            often = -1 if motion[0][0] == 0 and motion[1] == 0 else 1
            self.assertEqual(sign_of(BOTTLE, about, motion), often * sign_of(BOTTLE, RUNGS, motion))

    def test_wrong(self):
        for frame in NO_FRAMES:
            for ladder, motion in ((RUNGS, GLIDE), (None, None)):
                with self.assertRaises(BadFrame) as caught:
                    sign_of(frame, ladder, motion)
                self.assertEqual(caught.exception.part, "frame")
        for ladder in NO_LADDERS + (Further(RUNGS.steps), ladder_of(named("space")), ladder_of(named("two screws"))):
            for motion in (GLIDE, None):
                with self.assertRaises(BadPaper) as error:
                    sign_of(BOTTLE, ladder, motion)
                self.assertEqual(error.exception.part, "ladder")
        for motion in NO_MOTIONS:
            with self.assertRaises(BadMotion) as wrong:
                sign_of(BOTTLE, RUNGS, motion)
            self.assertEqual(wrong.exception.part, "motion")

    def test_no_ladder_of_a_stuck_frame(self):
        for name, frame in DOWN.items():
            paper = ladder_of(frame)
            if not paper:
                for ladder in (paper, Ladder(paper.steps), RUNGS, Ladder(())):
                    with self.assertRaises(BadPaper):
                        sign_of(frame, ladder, frame.still)


class AscendingTest(unittest.TestCase):
    def check(self, frame, ladder, lot):
        found = ascending(frame, ladder, lot)
        self.assertIs(type(found), tuple)
        self.assertTrue(all_tuples(found))
        self.assertEqual(sorted(found), sorted((tuple(shift), turn) for shift, turn in lot))
        return found

    def test_by_the_signs_of_each_pair(self):
        random.seed(3)
        for name, frame, ladder in with_ladders():
            lot = list(dict.fromkeys(some_motions(frame, 9)))
            random.shuffle(lot)
            found = self.check(frame, ladder, lot)
            for one, other in itertools.combinations(found, 2):
                self.assertEqual(sign_of(frame, ladder, frame.times(frame.undone(one), other)), 1)
            self.assertEqual(self.check(frame, ladder, lot[::-1]), found)
            still = found.index(frame.still)
            self.assertEqual([sign_of(frame, ladder, motion) for motion in found],
                             [-1] * still + [0] + [1] * (len(found) - still - 1))
            first = random.choice(lot)
            ahead = [frame.times(first, motion) for motion in found]
            self.assertEqual(self.check(frame, ladder, ahead[::-1]), tuple(ahead))

    def test_many(self):
        random.seed(4)
        self.assertEqual(ascending(BOTTLE, RUNGS, []), ())
        self.assertEqual(ascending(motions=[GLIDE], frame=BOTTLE, ladder=RUNGS), (GLIDE,))
        for name, frame, ladder in with_ladders():
            if frame.wide == 0:
                continue
            lot = list(dict.fromkeys((motion_of(frame, BIG)) for _ in range(60)))[:40]
            start = time.perf_counter()
            found = self.check(frame, ladder, tuple(lot))
            self.assertLess(time.perf_counter() - start, 10)
            for one, other in zip(found, found[1:]):
                self.assertEqual(sign_of(frame, ladder, frame.times(frame.undone(one), other)), 1)

    def test_lists_for_tuples(self):
        lot = [[[1, 0], 0], ([0, 0], 1), [(0, 1), 0]]
        found = (((0, 1), 0), GLIDE, ((1, 0), 0))
        self.assertEqual(ascending(BOTTLE, RUNGS, lot), found)
        self.assertEqual(lot, [[[1, 0], 0], ([0, 0], 1), [(0, 1), 0]])
        again = Ladder([[[1, 0], [[0, 1]], [[[0, 0], 0]]], [[1], [], [[[0], 0]]]])
        self.assertEqual(ascending(BOTTLE, again, tuple(lot)), found)

    def test_wrong(self):
        some = [((at, 1), 0) for at in range(41)]
        self.assertEqual(len(ascending(BOTTLE, RUNGS, some[:40])), 40)
        for frame in NO_FRAMES:
            for ladder, lot in ((RUNGS, []), (None, None)):
                with self.assertRaises(BadFrame) as caught:
                    ascending(frame, ladder, lot)
                self.assertEqual(caught.exception.part, "frame")
        for ladder in NO_LADDERS + (Further(RUNGS.steps), ladder_of(named("space"))):
            for lot in ([], None):
                with self.assertRaises(BadPaper) as error:
                    ascending(BOTTLE, ladder, lot)
                self.assertEqual(error.exception.part, "ladder")
        for lot in NO_ROWS + (some, [GLIDE, GLIDE], [GLIDE, [[0, 0], 1]], some[:39] + some[:1], "", GLIDE) + tuple(
                [GLIDE, motion] for motion in NO_MOTIONS):
            with self.assertRaises(BadLot) as wrong:
                ascending(BOTTLE, RUNGS, lot)
            self.assertEqual(wrong.exception.part, "motions")


class PapersTest(unittest.TestCase):
    def test_ladder_and_stuck(self):
        for made, word, truth in ((Ladder, "ladder", True), (Stuck, "stuck", False)):
            for paper in (made([[[1], [], [[[0], 0]]]]), made(steps=(((1,), (), (((0,), 0),)),))):
                self.assertEqual((paper.word, paper.parts), (word, ((((1,), (), (((0,), 0),)),),)))
                self.assertEqual(paper.steps, (((1,), (), (((0,), 0),)),))
                self.assertIs(bool(paper), truth)
                self.assertIs(isinstance(paper, Denial), not truth)
                self.assertTrue(paper == made([((1,), (), (((0,), 0),))]))
                self.assertFalse(paper == made([((2,), (), (((0,), 0),))]))
                self.assertFalse(paper == (Paper if truth else Denial)(word, paper.steps))
            self.assertEqual((made("a").steps, made(None).parts), ("a", (None,)))
        self.assertFalse(Ladder(()) == Stuck(()))


if __name__ == "__main__":
    unittest.main()
