import random
import unittest

from screwsums.check_leads import shows_merged
from screwsums.errors import BadLead
from screwsums.leads import Lead, Merged, Unlike, merged
from screwsums.named import named
from screwsums.papers import Denial, Paper
from screwsums.returning import Away, Back
from tests.bending import bent_parts
from tests.downward import DOWN
from tests.leading import LEADS, LINE, MADE, PLANE, POINT, STAIR, is_told_merged, is_told_unlike, told_image
from tests.plain import BIG, motion_of
from tests.test_heights import NO_MOTIONS
from tests.test_leads import NO_LEADS, made_anew
from tests.test_sums import caught

HALVES = Lead(STAIR, LINE, [[2]], [((0,), 0), ((1,), 0)])
SUNK = Lead(PLANE, LINE, [[1, 2]], [((0,), 0)])
UNLIKE = Unlike([[1]], 2, [([1], 2)])
NO_PAPERS = (None, True, False, 0, 1, "merged", "unlike", (), [], {}, object(), Merged, Unlike, ((2, -1), 0),
             UNLIKE.parts, Paper("merged", ((2, -1), 0)), Denial("unlike", *UNLIKE.parts), Back(((2, -1), 0), 2), Away(()))
BENT = ("halves", "halves of halves", "halves, long", "line to space", "plane to space", "plane to line", "space to plane",
        "plane to space, sunk", "mirror of a point", "two points to a line", "turned line twice", "point as it is",
        "two screws 1", "two screws to one half turn", "a flat stair to a line", "bottle by heights 0",
        "turned line to two points", "line to nothing", "a turn to another turn", "third screw told otherwise")


class FurtherMerged(Merged):
    """Not made by calling Merged."""


class FurtherUnlike(Unlike):
    """Not made by calling Unlike."""


class ShowsMergedTest(unittest.TestCase):
    def check(self, lead, value, right):
        self.assertIs(shows_merged(lead, value), right)

    def test_what_merged_returns(self):
        for name, lead in MADE.items():
            paper = merged(lead)
            self.check(lead, paper, True)
            self.check(made_anew(lead), paper, True)

    def test_any_motion(self):
        random.seed(1)
        seen = {True: 0, False: 0}
        for name, lead in MADE.items():
            some = [motion_of(lead.frame, 1) for _ in range(4)] + [lead.frame.still, (lead.frame.still[0], lead.frame.many - 1)]
            paper = merged(lead)
            if paper:
                some += [lead.frame.power(paper.motion, often) for often in (-1, 2, 1000)]
                some += [lead.frame.product([motion, paper.motion, lead.frame.undone(motion)]) for motion in some[:2]]
            for motion in some:
                right = motion != lead.frame.still and told_image(LEADS[name], motion) == lead.other.still
                self.check(lead, Merged(motion), right)
                self.check(lead, Merged([list(motion[0]), motion[1]]), right)
                seen[right] += 1
        self.assertGreater(min(seen.values()), 500)

    def test_of_the_document(self):
        for motion, right in ((((2, -1), 0), True), ([[-4, 2], 0], True), (((1, -1), 0), False), (((0, 0), 0), False),
                              (((2 * BIG, -BIG), 0), True), (((2, -1), False), False), (((2, -1), 1), False)):
            self.check(SUNK, Merged(motion), right)
        for motion in NO_MOTIONS:
            self.check(SUNK, Merged(motion), False)
        for motion, right in ((((0,), 1), True), (((1,), 1), False), (((0,), 2), True), (((0,), True), False),
                              (((0,), 0), False), (((0,), 4), False), (((-1,), 3), False), (((False,), 1), False)):
            self.check(MADE["a flat stair to a line"], Merged(motion), right)

    def test_multiplied(self):
        # Back and times, and a row and its modulus, taken any number of times above 0.
        for name, lead in MADE.items():
            paper = merged(lead)
            if paper:
                continue
            for often in (1, 2, 7, BIG, -1, 0):
                back = [[often * number for number in row] for row in paper.back]
                self.check(lead, Unlike(back, often * paper.times, paper.rows), often > 0)
                rows = [([often * number for number in row], often * modulus) for row, modulus in paper.rows]
                self.check(lead, Unlike(paper.back, paper.times, rows), often > 0 or not rows)
                rows = [([often * number for number in row], modulus) for row, modulus in paper.rows]
                self.check(lead, Unlike(paper.back, paper.times, rows), is_told_unlike(
                    lead, paper.back, paper.times, Unlike(None, None, rows).rows))

    def test_unlike_of_the_document(self):
        for back, times, rows, right in (
                ([[1]], 2, [([1], 2)], True), ([[3]], 6, [[[-3], 6]], True), ([[1]], 2, [], False),
                ([[1]], 2, [([1], 1)], False), ([[1]], 2, [([1], 2), ([1], 2)], False), ([[0]], 0, [([1], 2)], False),
                ([[-1]], -2, [([1], 2)], False), ([[1]], 1, [([1], 2)], False), ([[1, 0]], 2, [([1], 2)], False),
                ([[1], [0]], 2, [([1], 2)], False), ([], 2, [([1], 2)], False), ([[True]], 2, [([1], 2)], False),
                ([[1]], 2.0, [([1], 2)], False), ([[1]], 2, [([True], 2)], False), ([[1]], 2, [([1], True)], False),
                ([[1]], 2, [([1], 0)], False), ([[1]], 2, [([1], -2)], False), ([[1]], 2, [([2], 2)], False),
                ([[1]], 2, [([1], 4)], False), ([[1]], 2, [([2], 4)], True), ([[1]], 2, [([1, 0], 2)], False),
                ([[1]], 2, [([], 2)], False), ([[1]], 2, [1], False), ([[1]], 2, [([1],)], False), (None, 2, [], False),
                ([[1]], 2, [([1], 2, 0)], False), ([[1]], None, [([1], 2)], False), ([[1]], 2, None, False),
                ("1", 2, [([1], 2)], False), ([[1]], 2, {0: ([1], 2)}, False), ([[1]], 2, "ab", False),
                ([[1]], 2, [(1, 2)], False), ([[1]], 2, [(None, None)], False)):
            self.check(HALVES, Unlike(back, times, rows), right)
        one = Lead(LINE, LINE, [[1]], [((0,), 0)])
        self.check(one, Unlike([[1]], 1, []), True)
        self.check(one, Unlike([[True]], 1, []), False)
        self.check(one, Unlike([[1]], True, []), False)

    def test_rows_of_each_turn(self):
        lead = MADE["halves of halves"]
        back, times, rows = merged(lead).parts
        self.assertEqual(len(rows), 3)
        for further, right in (([((1,), 4)] * 3, True), ([((1,), 4), ((1,), 2), ((1,), 4)], False), (rows[:2], False),
                               ([((1,), 2), ((1,), 4), ((1,), 2)], True), ([((1,), 4), ((-1,), 4), ((3,), 4)], True),
                               ([((1,), 2), ((1,), 2), ((1,), 2)], False), (rows + rows[:1], False), (rows[:1], False),
                               (rows[1:], False), ((rows[1], rows[0], rows[2]), None), (rows[::-1], None)):
            told = is_told_unlike(lead, back, times, Unlike(0, 0, further).rows)
            if right is not None:
                self.assertIs(told, right)
            self.check(lead, Unlike(back, times, further), told)
        # Turn 3 of two screws goes to still, as turn 0 does: no row bars a motion of it.
        lead = MADE["two screws to one half turn"]
        self.check(lead, Unlike([], 1, [((), 2)]), False)
        self.check(lead, Unlike([(), (), ()], 1, [((), 2)]), False)

    def test_wide_0(self):
        mirror, still = MADE["mirror of a point"], Lead(POINT, POINT, [], [((), 0)])
        for times, right in ((1, True), (7, True), (BIG, True), (0, False), (-1, False), (True, False), (None, False)):
            self.check(mirror, Unlike([], times, []), right)
            self.check(still, Unlike([], times, []), right)
        self.check(mirror, Unlike([[]], 1, []), False)
        self.check(mirror, Unlike([], 1, [((1,), 2)]), False)
        lead = MADE["two points to a line"]
        self.check(lead, Unlike([], 1, [((1,), 2)]), False)
        self.check(lead, Merged(((), 1)), True)
        self.check(lead, Merged(((), 0)), False)
        away = Lead(DOWN["plane"], POINT, [], [((), 0)])
        self.check(away, Merged(((0, 1), 0)), True)
        self.check(away, Unlike([[], []], 1, []), False)
        self.check(away, Unlike([[], []], 0, []), False)

    def test_papers_bent_in_one_place(self):
        seen = {(kind, right): 0 for kind in (Merged, Unlike) for right in (True, False)}
        for name in BENT:
            lead = MADE[name]
            paper = merged(lead)
            told = is_told_merged if isinstance(paper, Merged) else is_told_unlike
            for parts, odd in bent_parts(paper):
                bent = type(paper)(*parts)
                right = told(lead, *bent.parts)
                self.assertFalse(right and odd)
                self.check(lead, bent, right)
                seen[(type(paper), right)] += 1
        self.assertGreater(min(seen.values()), 40)

    def test_other_papers(self):
        for value in NO_PAPERS + (FurtherMerged(((2, -1), 0)), Unlike(((2, -1), 0), 1, ()), UNLIKE):
            self.check(SUNK, value, False)
        for value in NO_PAPERS + (FurtherUnlike(*UNLIKE.parts), Merged(UNLIKE.parts)):
            self.check(HALVES, value, False)

    def test_wrong(self):
        for lead in NO_LEADS + (named("bottle"),):
            for value in (None, UNLIKE, Merged(((0,), 1))):
                self.assertEqual(caught(self, BadLead, shows_merged, lead, value).part, "lead")


if __name__ == "__main__":
    unittest.main()
