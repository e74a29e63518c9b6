import itertools
import random
import time
import unittest

from screwsums.check_ladders import shows_ladder
from screwsums.errors import BadFrame
from screwsums.faults import Fault
from screwsums.ladders import Ladder, Stuck, ladder_of
from screwsums.levels import Level, level
from screwsums.named import beside, named
from screwsums.papers import Denial, Paper
from screwsums.returning import Away, Back
from tests.bending import bent_parts
from tests.downward import DOWN, is_told_ladder, is_told_stuck
from tests.lawful import NO_FRAMES
from tests.plain import BIG, anew
from tests.test_ladders import NO_LADDERS, RUNGS, told_otherwise

BOTTLE = named("bottle")
MIXED = beside(named("line"), named("turned line"))
NO_STUCKS = (None, True, False, 0, 1, "stuck", "ladder", (), [], {}, object(), Paper, Ladder, Stuck, Paper("ladder", ()),
             Denial("stuck", ()), Fault("gap", (1,)), Back(((0,), 1), 2), Away(()), Level(None, (), ()), ((),))
BENT = ("line", "bottle", "bottle told otherwise 1", "third screw", "line beside turned line", "half turns beside line",
        "turned line", "two screws", "point", "two points", "cyclic 2 1 5", "cyclic 4 2 0", "fourth screw from afar",
        "exchange", "half exchange")


class Further(Stuck):
    """Not made by calling Stuck."""


def told(frame, paper):
    return (is_told_ladder if isinstance(paper, Ladder) else is_told_stuck)(frame, paper.steps)


class ShowsLadderTest(unittest.TestCase):
    def check(self, frame, paper, right=None):
        right = told(frame, paper) if right is None else right
        self.assertIs(shows_ladder(frame, paper), right)
        return right

    def test_what_ladder_of_returns(self):
        for name, frame in DOWN.items():
            paper = ladder_of(frame)
            self.check(frame, paper, True)
            self.check(anew(frame), paper, True)
            self.check(frame, (Stuck if paper else Ladder)(paper.steps), False)
            self.check(frame, type(paper)(told_otherwise(frame)), True)
            self.check(frame, (Stuck if paper else Ladder)(told_otherwise(frame)), False)
            self.check(frame, type(paper)([[list(part) for part in step] for step in paper.steps]), True)

    def test_papers_bent_in_one_place(self):
        seen = {True: 0, False: 0}
        for name in BENT:
            frame = DOWN[name]
            for paper in (ladder_of(frame), type(ladder_of(frame))(told_otherwise(frame))):
                for parts, odd in bent_parts(paper):
                    bent = type(paper)(*parts)
                    right = self.check(frame, bent)
                    self.assertFalse(right and odd)
                    seen[right] += 1
        self.assertGreater(min(seen.values()), 100)

    def test_steps_left_out_put_twice_exchanged(self):
        for name, frame in DOWN.items():
            paper = ladder_of(frame)
            steps = paper.steps
            for at in range(len(steps)):
                for further in (steps[:at] + steps[at + 1:], steps[:at] + steps[at:at + 1] + steps[at:],
                                steps[:at] + steps[at + 1:at + 2] + steps[at:at + 1] + steps[at + 2:]):
                    if further != steps:
                        self.check(frame, type(paper)(further), False)
                self.check(frame, Ladder(steps[:at]), False)
                self.check(frame, Stuck(steps[:at]), False)
            if steps:
                self.check(frame, Ladder(steps + steps[-1:]), False)
                self.check(frame, Stuck(steps + steps[-1:]), False)

    def test_row(self):
        down = RUNGS.steps[1]
        for row, right in (((1, 0), True), ([-1, 0], True), ((3, 0), True), ((BIG, 0), True), ((0, 0), False),
                           ((0, 1), False), ((1, 1), False), ((1,), False), ((1, 0, 0), False), ((True, 0), False),
                           ((1, False), False), ((1.0, 0), False), ((), False), (None, False), ("10", False),
                           (1, False), (((1, 0),), False), ({0: 1, 1: 0}, False)):
            self.check(BOTTLE, Ladder([(row, [(0, 1)], [((0, 0), 0)]), down]), right)
        for rows in itertools.product(range(-2, 3), repeat=2):
            for row in range(-2, 3):
                paper = Ladder([(rows, [(0, 1)], [((0, 0), 0)]), ((row,), (), [((0,), 0)])])
                self.check(BOTTLE, paper, rows[0] != 0 and rows[1] == 0 and row != 0)

    def test_shifts(self):
        space, rest = named("space"), ladder_of(named("plane")).steps
        row, motions = (2, 0, -4), [((0, 0, 0), 0)]
        for shifts, right in (([(0, 1, 0), (2, 0, 1)], True), ([(2, 0, 1), (0, -1, 0)], True),
                              ([(2, 7, 1), (2, 8, 1)], True), ([(2, BIG, 1), (0, 1, 0)], True),
                              ([(2, 7, 1), (2, 9, 1)], False), ([(0, 1, 0), (4, 0, 2)], False),
                              ([(0, 1, 0), (0, 1, 0)], False), ([(0, 1, 0), (0, -1, 0)], False),
                              ([(0, 1, 0), (0, 0, 0)], False), ([(0, 1, 0)], False), ([], False),
                              ([(0, 1, 0), (2, 0, 1), (2, 1, 1)], False), ([(0, 1, 0), (1, 0, 0)], False),
                              ([(0, 1, 0), (2, 0)], False), ([(0, True, 0), (2, 0, 1)], False), (None, False),
                              ([(0, 1, 0), (2, 0, True)], False), ("ab", False), ([(0, 1, 0), None], False)):
            self.check(space, Ladder([(row, shifts, motions), *rest]), right)
        random.seed(1)
        seen = {True: 0, False: 0}
        for _ in range(400):
            shifts = [(2 * at, random.randint(-2, 2), at) for at in (random.randint(-2, 2), random.randint(-2, 2))]
            seen[self.check(space, Ladder([(row, shifts, motions), *rest]))] += 1
        self.assertGreater(min(seen.values()), 30)

    def test_motions(self):
        still, over = ((0, 0), 0), ((0, 7), 1)
        for motions, right in (([still, over], True), ([still, [[0, -3], 1]], True), (([[0, 0], 0], over), True),
                               ([still], False), ([over], False), ([over, still], False), ([still, over, over], False),
                               ([still, still, over], False), ([still, ((1, 7), 1)], False), ([((0, 5), 0), over], False),
                               ([still, over, ((0, 0), 2)], False), ([still, ((0, 7), True)], False), ([], False),
                               ([((0, 0), False), over], False), ([still, ((0,), 1)], False), (None, False),
                               ([still, None], False), ("ab", False), ([still, ((0, False), 1)], False),
                               ({0: still, 1: over}, False), ([still, ((0, 0, 0), 1)], False)):
            self.check(MIXED, Stuck([((1, 0), [(0, 1)], motions)]), right)
        # Of four turns, done one behind another a shift by 2, two have motions of height 0.
        frame = DOWN["cyclic 4 2 0"]
        self.assertEqual(ladder_of(frame).word, "stuck")
        paper = ladder_of(frame)
        self.assertEqual([len(step[2]) for step in paper.steps], [4, 4])
        for at in range(2):
            row, shifts, motions = paper.steps[at]
            for order in itertools.permutations(motions):
                steps = paper.steps[:at] + ((row, shifts, order),) + paper.steps[at + 1:]
                self.check(frame, Stuck(steps), order == motions)
            for out in range(4):
                steps = paper.steps[:at] + ((row, shifts, motions[:out] + motions[out + 1:]),) + paper.steps[at + 1:]
                self.check(frame, Stuck(steps), False)

    def test_a_glide_of_odd_height(self):
        # No motion of turn 1 has height 0; one told all the same is none of height 0.
        down = RUNGS.steps[1]
        for shift in itertools.product(range(-2, 3), repeat=2):
            self.check(BOTTLE, Ladder([((1, 0), [(0, 1)], [((0, 0), 0), (shift, 1)]), down]), False)
            self.check(BOTTLE, Ladder([((1, 0), [(0, 1)], [(shift, 0)]), down]), shift == (0, 0))

    def test_steps_of_other_forms(self):
        step, down = RUNGS.steps
        for steps in (None, "ab", (None, down), (step, None), (step[:2], down), (step + ((),), down), (step, down[:2]),
                      ((), ()), ({0: step[0], 1: step[1], 2: step[2]}, down), (step[::-1], down), {0: step, 1: down},
                      step, down, (Level(*step), down), ("abc", down), (step, down, None), RUNGS, {1, 2}, 5, True):
            self.check(BOTTLE, Ladder(steps), False)
            self.check(BOTTLE, Stuck(steps), False)

    def test_a_ladder_of_another_frame(self):
        for one, other in (("bottle", "space"), ("bottle", "line"), ("line", "bottle"), ("third screw", "space"),
                           ("third screw", "fourth screw")):
            paper = ladder_of(named(other))
            self.check(named(one), paper)
        self.check(named("turned line"), RUNGS, False)
        self.check(BOTTLE, ladder_of(named("line")), False)
        self.check(MIXED, Ladder([((1, 0), [(0, 1)], [((0, 0), 0)]), RUNGS.steps[1]]), False)

    def test_where_stucks_lead(self):
        self.check(MIXED, Stuck([]), False)
        self.check(named("turned line"), Stuck([]), True)
        self.check(named("turned line"), Ladder([]), False)
        self.check(DOWN["point"], Ladder([]), True)
        self.check(DOWN["point"], Stuck([]), False)
        for many in range(2, 9):
            frame = DOWN[f"cyclic {many} 0 0"]
            self.check(frame, Stuck([]), True)
            for paper in (Ladder([]), Stuck([((), (), [frame.still])]), Ladder([((), (), [frame.still])])):
                self.check(frame, paper, False)

    def test_other_values(self):
        for name in ("bottle", "turned line", "point", "two points", "two screws"):
            paper = ladder_of(DOWN[name])
            for value in NO_STUCKS + (paper.parts, paper.steps, Paper("ladder", paper.steps), [paper],
                                      Denial("stuck", paper.steps), Further(paper.steps)):
                self.check(DOWN[name], value, False)
        for value in NO_LADDERS:
            self.check(BOTTLE, value, False)

    def test_long_integers(self):
        space = named("space")
        first = level(space, (BIG, BIG - 1, -BIG))
        second = level(first.frame, (BIG, -7))
        third = level(second.frame, (-BIG,))
        start = time.perf_counter()
        steps = tuple((row, found.shifts, found.motions) for row, found in (
            ((BIG, BIG - 1, -BIG), first), ((BIG, -7), second), ((-BIG,), third)))
        self.check(space, Ladder(steps), True)
        bent = tuple(place + 1 for place in steps[0][1][0])
        self.check(space, Ladder(((steps[0][0], (bent,) + steps[0][1][1:], steps[0][2]),) + steps[1:]), False)
        self.assertLess(time.perf_counter() - start, 10)

    def test_by_name(self):
        self.check(BOTTLE, RUNGS, True)
        self.assertIs(shows_ladder(value=RUNGS, frame=BOTTLE), True)

    def test_no_frame(self):
        for frame in NO_FRAMES:
            for value in (None, RUNGS, Stuck(())):
                with self.assertRaises(BadFrame) as caught:
                    shows_ladder(frame, value)
                self.assertEqual(caught.exception.part, "frame")


if __name__ == "__main__":
    unittest.main()
