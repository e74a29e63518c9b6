import itertools
import random
import time
import unittest

from screwsums.errors import BadFrame, BadLot, BadPaper
from screwsums.ladders import Ladder, ladder_of, sign_of
from screwsums.lots import ends, meets, met_once
from screwsums.named import named
from tests.downward import DOWN
from tests.lawful import NO_FRAMES, NO_ROWS, all_tuples
from tests.plain import BIG, anew, motion_of
from tests.test_heights import NO_MOTIONS
from tests.test_ladders import NO_LADDERS, RUNGS, Further, told_otherwise, told_sign, with_ladders

LINE, BOTTLE, HALF, SCREWS = named("line"), named("bottle"), named("half turns"), named("two screws")
GLIDE = ((0, 0), 1)


def lot_of(frame, many, far=2):
    """A lot of at most so many motions, in no order."""
    return list(dict.fromkeys(motion_of(frame, far) for _ in range(many)))


def full_lot(frame, many, far):
    found = {}
    while len(found) < many:
        found[motion_of(frame, far)] = True
    return list(found)


def no_lots(frame):
    """Values that are no lots of 1 to 40 motions of the bottle."""
    many = [((at, 0), 1) for at in range(41)]
    yield from NO_ROWS
    yield from ([], (), many, tuple(many), [GLIDE, GLIDE], [GLIDE, [[0, 0], 1]], [[(0, 0), 1], GLIDE], many[:39] + many[:1],
                GLIDE, "", {GLIDE: 1}, [None], [[GLIDE]], [frame])
    for motion in NO_MOTIONS:
        yield [motion]
        yield (GLIDE, motion)


def told_pairs(frame, one, other):
    """The pairs of each product, the products in their order."""
    met = {}
    for i, j in itertools.product(range(len(one)), range(len(other))):
        met.setdefault(frame.times(one[i], other[j]), []).append((i, j))
    return sorted(met.items(), key=lambda entry: (entry[0][1], entry[0][0]))


class MeetsTest(unittest.TestCase):
    def check(self, frame, one, other):
        told = told_pairs(frame, one, other)
        met, once = meets(frame, one, other), met_once(frame, one, other)
        self.assertEqual(met, tuple((motion, len(pairs)) for motion, pairs in told))
        self.assertEqual(once, tuple((motion, *pairs[0]) for motion, pairs in told if len(pairs) == 1))
        self.assertTrue(all_tuples(met) and all_tuples(once))
        self.assertEqual(sum(many for _, many in met), len(one) * len(other))
        return met, once

    def test_all_frames(self):
        random.seed(1)
        for name, frame in DOWN.items():
            for one, other in ((1, 1), (1, 12), (9, 1), (12, 10)):
                self.check(frame, lot_of(frame, one, random.choice((1, 2, BIG))), lot_of(frame, other, 1))

    def test_once_and_more(self):
        for frame in (HALF, SCREWS, BOTTLE, DOWN["quaternions"]):
            random.seed(2)
            lot = lot_of(frame, 25, 1)
            met, once = self.check(frame, lot, lot)
            self.assertGreater(max(many for _, many in met), 3)
            self.assertGreater(len(once), 0)
        twist = [HALF.still, ((0, 0), 1)]
        self.assertEqual(self.check(HALF, twist, twist), (((HALF.still, 2), (((0, 0), 1), 2)), ()))
        every = [((), turn) for turn in range(8)]
        self.assertEqual(self.check(DOWN["cyclic 8 0 0"], every, every[::-1]),
                         (tuple((motion, 8) for motion in every), ()))

    def test_one_stands_ahead(self):
        a, b = [((0, 0, 0), 1)], [((0, 0, 0), 2)]
        self.assertEqual(met_once(SCREWS, a, b), ((((0, 0, 0), 3), 0, 0),))
        self.assertEqual(met_once(SCREWS, b, a), ((((-1, 1, -1), 3), 0, 0),))
        self.assertEqual(met_once(frame=LINE, other=[((7,), 0)], one=[((0,), 0), ((-9,), 0)]),
                         ((((-2,), 0), 1, 0), (((7,), 0), 0, 0)))
        self.assertEqual(meets(other=[((7,), 0)], one=[((0,), 0)], frame=LINE), ((((7,), 0), 1),))

    def test_forty(self):
        random.seed(3)
        for name in ("line", "space", "bottle", "two screws", "quaternions", "moved quaternions", "mirrors"):
            frame = DOWN[name]
            far = BIG if frame.wide == 1 else random.choice((2, BIG))
            start = time.perf_counter()
            self.check(frame, full_lot(frame, 40, far), tuple(full_lot(frame, 40, far)))
            self.assertLess(time.perf_counter() - start, 5)
        steps = [((at,), 0) for at in range(40)]
        met, once = self.check(LINE, steps, steps)
        self.assertEqual(met, tuple((((at,), 0), min(at + 1, 79 - at)) for at in range(79)))
        self.assertEqual(once, ((((0,), 0), 0, 0), (((78,), 0), 39, 39)))

    def test_two_at_least_where_a_ladder_stands(self):
        random.seed(4)
        for name, frame, ladder in with_ladders():
            one, other = lot_of(frame, 6), lot_of(frame, 4)
            _, once = self.check(frame, one, other)
            self.assertGreaterEqual(len(once), min(2, len(one) * len(other)))

    def test_lists_for_tuples(self):
        one, other = [[[0, 0], 1], ([0, 1], 0)], ([(0, 0), 1], [[0, 1], 0])
        told = ((((0, 2), 0), 1), (((1, 0), 0), 1), (((0, -1), 1), 1), (((0, 1), 1), 1))
        self.assertEqual(meets(BOTTLE, one, other), told)
        self.assertEqual(meets(anew(BOTTLE), tuple(one), list(other)), told)
        self.assertTrue(all_tuples(met_once(BOTTLE, one, other)))
        self.assertEqual((one, other), ([[[0, 0], 1], ([0, 1], 0)], ([(0, 0), 1], [[0, 1], 0])))


class EndsTest(unittest.TestCase):
    def check(self, frame, ladder, one, other):
        """The two pairs, against the signs of each product and all others."""
        found = ends(frame, ladder, one, other)
        self.assertIs(type(found), tuple)
        self.assertTrue(all_tuples(found))
        products = {(i, j): frame.times(one[i], other[j]) for i in range(len(one)) for j in range(len(other))}
        for pair, sign in zip(found, (1, -1), strict=True):
            back = frame.undone(products[pair])
            for further, product in products.items():
                told = told_sign(frame, ladder.steps, frame.times(back, product))
                self.assertEqual(told, 0 if further == pair else sign)
        once = [triple[1:] for triple in met_once(frame, one, other)]
        self.assertLessEqual(set(found), set(once))
        return found

    def test_each_ladder(self):
        random.seed(5)
        for name, frame, ladder in with_ladders():
            for one, other in ((1, 1), (1, 4), (5, 1), (5, 4)):
                far = random.choice((1, 3, BIG))
                self.check(frame, ladder, lot_of(frame, one, far), lot_of(frame, other, far))

    def test_downwards(self):
        random.seed(6)
        for name, frame in DOWN.items():
            paper = ladder_of(frame)
            if not paper:
                continue
            down = Ladder([(tuple(-place for place in row), shifts, motions) for row, shifts, motions in paper.steps])
            one, other = lot_of(frame, 6), lot_of(frame, 5)
            self.assertEqual(self.check(frame, down, one, other), self.check(frame, paper, one, other)[::-1])

    def test_of_the_document(self):
        falling = Ladder([[(-1, 0), [(0, 1)], [((0, 0), 0)]], [(1,), [], [((0,), 0)]]])
        about = Ladder([[(1, 0), [(0, -1)], [((0, 0), 0)]], [(1,), [], [((0,), 0)]]])
        glides = [GLIDE, ((0, 1), 0)]
        self.assertEqual(self.check(BOTTLE, RUNGS, glides, glides), ((1, 1), (0, 0)))
        self.assertEqual(self.check(BOTTLE, falling, glides, glides), ((0, 0), (1, 1)))
        self.assertEqual(self.check(BOTTLE, about, glides, glides), ((1, 1), (0, 0)))
        self.assertEqual(ends(other=glides, ladder=RUNGS, frame=BOTTLE, one=glides), ((1, 1), (0, 0)))
        self.assertEqual(self.check(BOTTLE, RUNGS, [GLIDE], [GLIDE]), ((0, 0), (0, 0)))

    def test_a_turn_ahead(self):
        # The glide turns about the shifts that stand behind it, and leaves those ahead.
        shifts = [((0, at), 0) for at in (2, -1, 3)]
        self.assertEqual(self.check(BOTTLE, RUNGS, [GLIDE], shifts), ((0, 1), (0, 2)))
        self.assertEqual(self.check(BOTTLE, RUNGS, shifts, [GLIDE]), ((2, 0), (1, 0)))

    def test_the_still_motion_alone(self):
        point = DOWN["point"]
        self.assertEqual(ends(point, Ladder(()), [((), 0)], [[[], 0]]), ((0, 0), (0, 0)))

    def test_forty(self):
        random.seed(7)
        for name in ("space", "bottle", "fourth screw from afar", "third screw told otherwise 2", "cyclic 7 3 1"):
            frame = DOWN[name]
            ladder = Ladder(told_otherwise(frame))
            start = time.perf_counter()
            one, other = full_lot(frame, 40, BIG), full_lot(frame, 40, 3)
            found = ends(frame, ladder, one, tuple(other))
            self.assertLess(time.perf_counter() - start, 5)
            for pair, sign in zip(found, (1, -1)):
                back = frame.undone(frame.times(one[pair[0]], other[pair[1]]))
                for i, j in itertools.product(range(0, 40, 7), range(0, 40, 9)):
                    further = frame.times(back, frame.times(one[i], other[j]))
                    self.assertEqual(sign_of(frame, ladder, further), 0 if (i, j) == pair else sign)

    def test_lists_for_tuples(self):
        lot = [[[0, 0], 1], ([0, 1], 0)]
        ladder = Ladder([[[1, 0], [[0, 1]], [[[0, 0], 0]]], [[1], [], [[[0], 0]]]])
        self.assertEqual(ends(BOTTLE, ladder, lot, tuple(lot)), ((1, 1), (0, 0)))
        self.assertEqual(lot, [[[0, 0], 1], ([0, 1], 0)])


class WrongTest(unittest.TestCase):
    def check(self, kind, part, call, *parts):
        with self.assertRaises(kind) as caught:
            call(*parts)
        self.assertIs(type(caught.exception), kind)
        self.assertEqual(caught.exception.part, part)

    def test_frame(self):
        for frame in NO_FRAMES:
            for one, other in (([GLIDE], [GLIDE]), (None, None)):
                self.check(BadFrame, "frame", meets, frame, one, other)
                self.check(BadFrame, "frame", met_once, frame, one, other)
                for ladder in (RUNGS, None):
                    self.check(BadFrame, "frame", ends, frame, ladder, one, other)

    def test_ladder(self):
        for ladder in NO_LADDERS + (Further(RUNGS.steps), ladder_of(named("space")), ladder_of(SCREWS)):
            for lot in ([GLIDE], None):
                self.check(BadPaper, "ladder", ends, BOTTLE, ladder, lot, lot)
        for name, frame in DOWN.items():
            paper = ladder_of(frame)
            if not paper:
                for ladder in (paper, Ladder(paper.steps), RUNGS):
                    self.check(BadPaper, "ladder", ends, frame, ladder, [frame.still], [frame.still])

    def test_lots(self):
        for lot in no_lots(BOTTLE):
            for further in ([GLIDE], lot):
                self.check(BadLot, "one", meets, BOTTLE, lot, further)
                self.check(BadLot, "one", met_once, BOTTLE, lot, further)
                self.check(BadLot, "one", ends, BOTTLE, RUNGS, lot, further)
            self.check(BadLot, "other", meets, BOTTLE, [GLIDE], lot)
            self.check(BadLot, "other", met_once, BOTTLE, (GLIDE,), lot)
            self.check(BadLot, "other", ends, BOTTLE, RUNGS, [GLIDE], lot)


if __name__ == "__main__":
    unittest.main()
