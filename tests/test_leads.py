import random
import time
import unittest

from screwsums.errors import BadFrame, BadLead, BadMotion, BadSum, Misfit
from screwsums.frames import Frame
from screwsums.leads import Lead, Merged, Unlike, merged
from screwsums.named import named
from screwsums.papers import Denial, Paper
from screwsums.sums import Sum, still_sum
from screwsums.undone import Undone, undo
from tests.bending import bent
from tests.downward import DOWN
from tests.lawful import NO_FRAMES, NO_ROWS, all_tuples
from tests.leading import (FLAT, LEADS, LINE, MADE, PLANE, POINT, SCREWS, STAIR, conjugated, is_told_lawful,
                           is_told_merged, is_told_unlike, screws_led, still_turns, told_image)
from tests.plain import BIG, anew, motion_of, ordered, some_sum
from tests.test_heights import NO_MOTIONS
from tests.test_sums import NO_SUMS, caught, steps

BOTTLE = named("bottle")
TWICE = (FLAT, FLAT, [[2]], [((0,), 0), ((1,), 1)])
DOWNWARD = (STAIR, LINE, [[2]], [((0,), 0), ((1,), 0)])
NO_LEADS = (None, True, 0, 1, "lead", (), [], {}, object(), Lead, TWICE, FLAT, Paper("lead"), Sum(LINE, 2, []))


def listed(value):
    return [listed(part) for part in value] if isinstance(value, (list, tuple)) else value


def made_anew(lead):
    """An equal lead, made of lists."""
    return Lead(anew(lead.frame), anew(lead.other), listed(lead.square), listed(lead.motions))


def some_leads(many):
    """Leads of all kinds, not the same ones each time."""
    return random.sample(sorted(MADE), many)


class LeadTest(unittest.TestCase):
    def test_lawful_ones(self):
        for name, parts in LEADS.items():
            frame, other, square, motions = parts
            self.assertTrue(is_told_lawful(parts))
            lead = Lead(motions=listed(motions), square=listed(square), other=other, frame=frame)
            self.assertTrue(lead.frame == frame and lead.other == other)
            self.assertEqual(listed(lead.square), listed(square))
            self.assertEqual(listed(lead.motions), listed(motions))
            self.assertTrue(all_tuples(lead.square) and all_tuples(lead.motions))
            self.assertTrue(lead == MADE[name])

    def test_which_are_lawful(self):
        # From the turned line to itself by any square of one place and any motion of turn 1.
        for often in range(-3, 4):
            for start in range(-3, 4):
                for turn in (0, 1):
                    parts = (FLAT, FLAT, [[often]], [((0,), 0), ((start,), turn)])
                    self.assertIs(is_told_lawful(parts), turn == 1 or often == start == 0)
                    self.check(parts)
        for often in range(-3, 4):
            for start in range(-3, 4):
                self.check((STAIR, LINE, [[often]], [((0,), 0), ((start,), 0)]))
                self.check((BOTTLE, STAIR, [[often, 0]], [((0,), 0), ((start,), 1)]))
                self.check((BOTTLE, STAIR, [[often, 1]], [((0,), 0), ((start,), 1)]))

    def check(self, parts):
        if is_told_lawful(parts):
            self.assertTrue(Lead(*parts) == Lead(*parts))
        else:
            self.assertEqual(caught(self, BadLead, Lead, *parts).part, "fault")

    def test_bent_in_one_place(self):
        random.seed(1)
        seen = {True: 0, "fault": 0, "square": 0, "motions": 0}
        for name in some_leads(60) + ["halves", "two screws 1", "plane to space, sunk", "turned line twice"]:
            frame, other, square, motions = LEADS[name]
            square, motions = MADE[name].square, MADE[name].motions
            for further, _ in bent(square):
                told = self.told(frame, other, further, motions)
                self.check_told((frame, other, further, motions), told)
                seen[told] += 1
            for further, _ in random.sample(list(bent(motions)), 25):
                told = self.told(frame, other, square, further)
                self.check_told((frame, other, square, further), told)
                seen[told] += 1
        self.assertGreater(min(seen.values()), 50)

    def told(self, frame, other, square, motions):
        """True, or which error is to come."""
        if not isinstance(square, (list, tuple)) or len(square) != other.wide:
            return "square"
        for row in square:
            if not isinstance(row, (list, tuple)) or len(row) != frame.wide or any(type(part) is not int for part in row):
                return "square"
        if not isinstance(motions, (list, tuple)) or len(motions) != frame.many:
            return "motions"
        for motion in motions:
            if not isinstance(motion, (list, tuple)) or len(motion) != 2 or type(motion[1]) is not int:
                return "motions"
            shift, turn = motion
            if not isinstance(shift, (list, tuple)) or len(shift) != other.wide or not 0 <= turn < other.many:
                return "motions"
            if any(type(place) is not int for place in shift):
                return "motions"
        if motions[0][1] != 0 or any(motions[0][0]):
            return "motions"
        return is_told_lawful((frame, other, square, motions)) or "fault"

    def check_told(self, parts, told):
        if told is True:
            self.assertTrue(Lead(*parts) == Lead(*parts))
        else:
            self.assertEqual(caught(self, BadLead, Lead, *parts).part, told)

    def test_each_row_of_the_law(self):
        # The square takes shifts to others than the turn does; two motions make another one; a turn is another one.
        mirror = [[1, 0], [0, -1]]
        for parts, right in (((FLAT, LINE, [[0]], [((0,), 0), ((0,), 0)]), True),
                             ((FLAT, LINE, [[1]], [((0,), 0), ((0,), 0)]), False),
                             ((FLAT, LINE, [[0]], [((0,), 0), ((1,), 0)]), False),
                             ((BOTTLE, BOTTLE, mirror, [BOTTLE.still, ((0, 0), 1)]), True),
                             ((BOTTLE, BOTTLE, mirror, [BOTTLE.still, ((0, 5), 1)]), True),
                             ((BOTTLE, BOTTLE, mirror, [BOTTLE.still, ((1, 0), 1)]), False),
                             ((BOTTLE, BOTTLE, [[3, 0], [0, 7]], [BOTTLE.still, ((1, 4), 1)]), True),
                             ((BOTTLE, BOTTLE, [[3, 0], [1, 7]], [BOTTLE.still, ((1, 4), 1)]), False),
                             ((BOTTLE, BOTTLE, [[3, 0], [0, 7]], [BOTTLE.still, ((1, 4), 0)]), False),
                             ((BOTTLE, LINE, [[2, 0]], [((0,), 0), ((1,), 0)]), True),
                             ((BOTTLE, LINE, [[2, 1]], [((0,), 0), ((1,), 0)]), False)):
            self.assertIs(is_told_lawful(parts), right)
            self.check(parts)
        turns = DOWN["cyclic 4 0 0"]
        for turn in range(4):
            motions = [((), c * turn % 4) for c in range(4)]
            self.check((turns, turns, [], motions))
            self.assertTrue(is_told_lawful((turns, turns, [], motions)))
            self.assertEqual(caught(self, BadLead, Lead, turns, turns, [], motions[:3] + [((), (3 * turn + 1) % 4)]).part,
                             "fault")

    def test_equal(self):
        random.seed(2)
        for name in some_leads(120):
            lead = MADE[name]
            self.assertTrue(made_anew(lead) == lead)
            self.assertFalse(made_anew(lead) != lead)
            for other in (None, "lead", lead.frame, lead.square, LEADS[name], object(), Lead):
                self.assertIs(lead == other, False)
                self.assertIs(lead != other, True)
        lead = Lead(*TWICE)
        for parts in ((FLAT, FLAT, [[3]], [((0,), 0), ((1,), 1)]), (FLAT, FLAT, [[2]], [((0,), 0), ((2,), 1)]),
                      (FLAT, BOTTLE, [[0], [2]], [((0, 0), 0), ((0, 0), 0)]), (FLAT, FLAT, [[0]], [((0,), 0)] * 2)):
            if is_told_lawful(parts):
                self.assertIs(lead == Lead(*parts), False)
        one, other = DOWN["cyclic 2 1 0"], DOWN["cyclic 2 1 1"]
        self.assertFalse(Lead(one, LINE, [[0]], [((0,), 0)] * 2) == Lead(other, LINE, [[0]], [((0,), 0)] * 2))
        self.assertFalse(Lead(LINE, one, [[3]], [((0,), 0)]) == Lead(LINE, other, [[3]], [((0,), 0)]))

    def test_what_is_passed_stays_and_may_be_changed(self):
        square, motions = [[2]], [[[0], 0], [[1], 1]]
        lead = Lead(FLAT, FLAT, square, motions)
        self.assertEqual((square, motions), ([[2]], [[[0], 0], [[1], 1]]))
        square[0][0], motions[1][0][0] = 9, 9
        self.assertEqual((lead.square, lead.motions), (((2,),), (((0,), 0), ((1,), 1))))

    def test_wrong(self):
        for frame in NO_FRAMES:
            for other, square, motions in ((FLAT, [[2]], TWICE[3]), (None, None, None)):
                self.assertEqual(caught(self, BadFrame, Lead, frame, other, square, motions).part, "frame")
            for square, motions in (([[2]], TWICE[3]), (None, None)):
                self.assertEqual(caught(self, BadFrame, Lead, FLAT, frame, square, motions).part, "other")
        for square in NO_ROWS + ([], [2], [[]], [[2, 3]], [[2], [3]], [[True]], [[2.0]], [["2"]], ["2"], "2", [None]):
            for motions in (TWICE[3], None):
                self.assertEqual(caught(self, BadLead, Lead, FLAT, FLAT, square, motions).part, "square")
        still = ((0,), 0)
        for motions in NO_ROWS + ([], [still], [still] * 3, [still, ((0,), 2)], [((1,), 0), still], [((0,), 1), still],
                                  [still, ((0,), True)], [((False,), 0), still], [((0,), False), still], [still, None],
                                  [still, ((0, 0), 0)], [still, still[:1]], still, "ab", {still: 0, ((0,), 1): 1}):
            self.assertEqual(caught(self, BadLead, Lead, FLAT, FLAT, [[2]], motions).part, "motions")
            # The fault comes behind.
            self.assertEqual(caught(self, BadLead, Lead, FLAT, FLAT, [[2]], [still, still]).part, "fault")


class ImageTest(unittest.TestCase):
    def test_by_the_words(self):
        random.seed(3)
        for name, lead in MADE.items():
            for far in (1, BIG):
                motion = motion_of(lead.frame, far)
                found = lead.image(motion)
                self.assertEqual(found, told_image(LEADS[name], motion))
                self.assertTrue(all_tuples(found))
                self.assertEqual(lead.image(motion=[list(motion[0]), motion[1]]), found)

    def test_products_go_to_products(self):
        random.seed(4)
        for name, lead in MADE.items():
            one, other = motion_of(lead.frame), motion_of(lead.frame)
            self.assertEqual(lead.image(lead.frame.times(one, other)), lead.other.times(lead.image(one), lead.image(other)))
            self.assertEqual(lead.image(lead.frame.undone(one)), lead.other.undone(lead.image(one)))
            self.assertEqual(lead.image(lead.frame.still), lead.other.still)

    def test_wrong(self):
        lead = Lead(BOTTLE, LINE, [[2, 0]], [((0,), 0), ((1,), 0)])
        for motion in NO_MOTIONS:
            self.assertEqual(caught(self, BadMotion, lead.image, motion).part, "motion")


class ImageSumTest(unittest.TestCase):
    def check(self, lead, total, parts):
        numbers = {}
        for motion, number in total.terms:
            at = told_image(parts, motion)
            numbers[at] = numbers.get(at, 0) + number
        found = lead.image_sum(total)
        self.assertIs(type(found), Sum)
        self.assertTrue(found.frame == lead.other)
        self.assertEqual((found.by, found.terms), (total.by, ordered(numbers, total.by)))
        self.assertTrue(all_tuples(found.terms))
        return found

    def test_by_the_words(self):
        random.seed(5)
        met = 0
        for name, lead in MADE.items():
            total = some_sum(anew(lead.frame), random.choice((2, 3, 5, 7, 11, 13)), 12, random.choice((1, 1, BIG)))
            found = self.check(lead, total, LEADS[name])
            met += len(found.terms) < len(total.terms)
            self.assertTrue(lead.image_sum(total=total) == found)
        self.assertGreater(met, 100)

    def test_motions_that_meet(self):
        # All shifts along the second place go to still: what is met is added, by the prime.
        parts = (PLANE, LINE, [[1, 0]], [((0,), 0)])
        lead = Lead(*parts)
        total = Sum(PLANE, 5, [(((4, at), 0), 2) for at in range(5)] + [(((7, at), 0), at) for at in (1, 2)])
        self.assertEqual(self.check(lead, total, parts).terms, ((((7,), 0), 3),))
        self.assertEqual(self.check(lead, Sum(PLANE, 2, []), parts).terms, ())

    def test_more_than_a_thousand_terms(self):
        for parts in (TWICE, (FLAT, FLAT, [[-3]], [((0,), 0), ((BIG,), 1)]), (LINE, PLANE, [[1], [-1]], [((0, 0), 0)]),
                      (LINE, LINE, [[0]], [((0,), 0)]), (PLANE, LINE, [[1, 3]], [((0,), 0)])):
            total = steps(parts[0], 2400, 1, 3)
            found = self.check(Lead(*parts), total, parts)
            self.assertEqual(len(found.terms), 2400 if any(parts[2][0]) else 0)

    def test_sums_multiplied_out(self):
        random.seed(6)
        for name in some_leads(150):
            lead = MADE[name]
            one, other = some_sum(lead.frame, 3, 6, 1), some_sum(lead.frame, 3, 6, 1)
            self.assertTrue(lead.image_sum(one.times(other)) == lead.image_sum(one).times(lead.image_sum(other)))
            self.assertTrue(lead.image_sum(one.plus(other)) == lead.image_sum(one).plus(lead.image_sum(other)))
            self.assertTrue(lead.image_sum(still_sum(lead.frame, 3)) == still_sum(lead.other, 3))

    def test_what_can_be_undone(self):
        five = Sum(FLAT, 3, [(((0,), 0), 1), (((1,), 0), 1), (((-1,), 0), 2), (((1,), 1), 1), (((-1,), 1), 2)])
        lead = Lead(*TWICE)
        paper = undo(lead.image_sum(five))
        self.assertIs(type(paper), Undone)
        self.assertTrue(paper.other == lead.image_sum(undo(five).other))

    def test_wrong(self):
        lead = Lead(*TWICE)
        for total in NO_SUMS:
            self.assertEqual(caught(self, BadSum, lead.image_sum, total).part, "total")
        for frame in (LINE, BOTTLE, STAIR, POINT):
            self.assertEqual(caught(self, Misfit, lead.image_sum, Sum(frame, 2, [])).part, "frame")


class AfterTest(unittest.TestCase):
    def check(self, first, then):
        both = then.after(first)
        self.assertIs(type(both), Lead)
        self.assertTrue(both.frame == first.frame and both.other == then.other)
        self.assertTrue(all_tuples(both.square) and all_tuples(both.motions))
        for motion in still_turns(first.frame) + [motion_of(first.frame, far) for far in (1, 3, BIG)]:
            self.assertEqual(both.image(motion), then.image(first.image(motion)))
        self.assertEqual(both.motions, tuple(then.image(first.image(motion)) for motion in still_turns(first.frame)))
        self.assertEqual((len(both.square), [len(row) for row in both.square]),
                         (then.other.wide, [first.frame.wide] * then.other.wide))
        return both

    def test_both_one_behind_the_other(self):
        random.seed(7)
        seen = 0
        for name in some_leads(250):
            first = MADE[name]
            fitting = [further for further in MADE.values() if further.frame == first.other]
            for then in random.sample(fitting, min(3, len(fitting))):
                self.check(first, then)
                seen += 1
        self.assertGreater(seen, 400)

    def test_by_way_of_nothing(self):
        # Whatever goes to the point goes to still from there, in as many places as there are.
        for wide, name in ((1, "line"), (2, "bottle"), (3, "two screws"), (3, "quaternions")):
            frame = DOWN[name]
            to, away = MADE[f"{name} to the point"], Lead(POINT, frame, [[]] * wide, [frame.still])
            self.assertEqual(self.check(to, away).square, ((0,) * wide,) * wide)
            self.assertEqual(self.check(away, to).square, ())
            self.assertEqual(self.check(MADE["plane to space"], MADE["space to the point"]).square, ())
            self.assertEqual(to.after(away).motions, (((), 0),))

    def test_three_and_as_it_is(self):
        random.seed(8)
        for name in some_leads(60):
            lead = MADE[name]
            still = Lead(lead.frame, lead.frame, [[int(i == j) for j in range(lead.frame.wide)]
                                                  for i in range(lead.frame.wide)], still_turns(lead.frame))
            self.assertTrue(lead.after(still) == lead)
            one, two = [Lead(*conjugated(lead.frame, motion_of(lead.frame))) for _ in range(2)]
            self.assertTrue(lead.after(one).after(two) == lead.after(one.after(two)))
            back = Lead(*conjugated(lead.frame, ((0,) * lead.frame.wide, 0)))
            self.assertTrue(back == still)

    def test_what_does_not_fit(self):
        lead = Lead(*DOWNWARD)
        for first in NO_LEADS:
            self.assertEqual(caught(self, BadLead, lead.after, first).part, "first")
        for first in (lead, Lead(*TWICE), MADE["plane to line"], MADE["cyclic 2 1 1 to its turns"]):
            self.assertEqual(caught(self, Misfit, lead.after, first).part, "frames")
        both = Lead(LINE, LINE, [[3]], [((0,), 0)]).after(first=lead)
        self.assertEqual((both.square, both.motions), (((6,),), (((0,), 0), ((3,), 0))))


class MergedTest(unittest.TestCase):
    def check(self, lead):
        paper = merged(lead)
        self.assertIn(type(paper), (Merged, Unlike))
        self.assertTrue(all_tuples(paper.parts))
        right = is_told_merged if type(paper) is Merged else is_told_unlike
        self.assertIs(right(lead, *paper.parts), True)
        self.assertTrue(merged(lead=made_anew(lead)) == paper)
        return paper

    def test_all_leads(self):
        seen = {"by the square": 0, "by a turn": 0, "unlike": 0, "unlike with rows": 0}
        for name, lead in MADE.items():
            with self.subTest(name=name):
                paper = self.check(lead)
                if paper:
                    seen["by the square" if paper.motion[1] == 0 else "by a turn"] += 1
                else:
                    seen["unlike with rows" if paper.rows else "unlike"] += 1
        self.assertGreater(min(seen.values()), 10)

    def test_which(self):
        for name, right in (("halves", False), ("halves of halves", False), ("halves, long", False), ("line to space", False),
                            ("halves, some still", False), ("plane to line", True), ("plane to space", False),
                            ("plane to space, sunk", True), ("space to plane", True), ("line to nothing", True),
                            ("mirror of a point", False), ("two points to a line", True), ("turned line twice", False),
                            ("turned line to two points", True), ("two screws to one half turn", True),
                            ("a turn to another turn", False), ("turned line to one mirror", True),
                            ("a flat stair to a line", True), ("two screws 3", False), ("point as it is", False)):
            self.assertIs(bool(self.check(MADE[name])), right)

    def test_a_turn_alone(self):
        # Turn 2 of four, which climb 2, goes down to still: it stands half a shift above turn 0.
        frame = Frame(1, DOWN["cyclic 4 1 0"].turns, [[[1]]] * 4,
                      [[[2 * int(c + d >= 4)] for d in range(4)] for c in range(4)])
        paper = self.check(Lead(frame, LINE, [[2]], [((at,), 0) for at in range(4)]))
        self.assertEqual(paper.parts, (((-1,), 2),))
        self.assertEqual(self.check(MADE["a flat stair to a line"]).motion[0], (0,))

    def test_rows_of_the_unlike(self):
        paper = self.check(MADE["halves of halves"])
        self.assertEqual(len(paper.rows), 3)
        self.assertEqual(self.check(Lead(*DOWNWARD)).rows[0][1], 2)
        self.assertEqual(self.check(Lead(*TWICE)).rows, ())

    def test_any_square_of_two_places(self):
        random.seed(9)
        for _ in range(300):
            square = [[random.randint(-2, 2) for _ in range(2)] for _ in range(random.choice((2, 3)))]
            lead = Lead(PLANE, DOWN["plane" if len(square) == 2 else "space"], square, [((0,) * len(square), 0)])
            minors = [square[i][0] * square[j][1] - square[i][1] * square[j][0]
                      for i in range(len(square)) for j in range(i)]
            self.assertIs(bool(self.check(lead)), not any(minors))

    def test_in_a_short_time(self):
        random.seed(10)
        for name in ("quaternions", "moved quaternions", "mirrors", "cyclic 8 3 5", "two screws told otherwise 2"):
            frame = DOWN[name]
            start = time.perf_counter()
            lead = Lead(*conjugated(frame, motion_of(frame, BIG)))
            for _ in range(3):
                lead = lead.after(Lead(*conjugated(frame, motion_of(frame, BIG))))
            self.assertIs(bool(self.check(lead)), False)
            self.assertLess(time.perf_counter() - start, 5)
        rows = [[random.randint(-BIG, BIG) for _ in range(3)] for _ in range(3)]
        self.assertIs(bool(self.check(Lead(DOWN["space"], DOWN["space"], rows, [((0, 0, 0), 0)]))), False)
        self.assertIs(bool(self.check(Lead(*screws_led((BIG, -BIG, 7), (0, BIG, -BIG))))), False)

    def test_two_screws_go_to_two_screws(self):
        for name in MADE:
            if name.startswith("two screws ") and name[-1].isdigit() and MADE[name].frame == SCREWS == MADE[name].other:
                self.assertIs(bool(self.check(MADE[name])), False)

    def test_wrong(self):
        for lead in NO_LEADS:
            self.assertEqual(caught(self, BadLead, merged, lead).part, "lead")


class PapersTest(unittest.TestCase):
    def test_merged(self):
        for paper in (Merged([[0], 1]), Merged(motion=((0,), 1))):
            self.assertEqual((paper.word, paper.parts, paper.motion), ("merged", (((0,), 1),), ((0,), 1)))
            self.assertIs(bool(paper), True)
            self.assertNotIsInstance(paper, Denial)
            self.assertTrue(paper == Merged(((0,), 1)))
            self.assertFalse(paper == Paper("merged", ((0,), 1)))
        self.assertEqual((Merged("a").motion, Merged(None).parts), ("a", (None,)))

    def test_unlike(self):
        for paper in (Unlike([[1]], 2, [([1], 2)]), Unlike(rows=[[[1], 2]], times=2, back=((1,),))):
            self.assertEqual((paper.word, paper.parts), ("unlike", (((1,),), 2, (((1,), 2),))))
            self.assertEqual((paper.back, paper.times, paper.rows), paper.parts)
            self.assertIs(bool(paper), False)
            self.assertIsInstance(paper, Denial)
            self.assertTrue(paper == Unlike(((1,),), 2, (((1,), 2),)))
            self.assertFalse(paper == Unlike(((1,),), 3, (((1,), 2),)))
        self.assertEqual(Unlike("a", None, 3).parts, ("a", None, 3))


if __name__ == "__main__":
    unittest.main()
