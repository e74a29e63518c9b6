import itertools
import random
import time
import unittest

from screwsums.determinants import determinant
from screwsums.errors import BadFrame, BadMotion, BadNumber, Misfit, TooMany
from screwsums.frames import Frame
from screwsums.moved import Moved, moved, moved_motion, start_between
from screwsums.named import named
from screwsums.papers import Denial, Paper
from screwsums.sums import Sum
from screwsums.wholes import Barred
from tests.downward import DOWN, is_told_ladder, is_told_stuck
from tests.lawful import NO_FRAMES, NO_ROWS, all_tuples, cyclic, flat, summed, taken
from tests.lawful import moved as told_moved
from tests.plain import BIG, anew, motion_of, some_sum
from tests.test_heights import NO_MOTIONS
from tests.test_ladders import ladder_of

BOTTLE, LINE, SCREWS = named("bottle"), named("line"), named("two screws")
NO_STARTS = NO_ROWS + ((), ((0, 0),), ((0, 0), (0, 0), (0, 0)), ((1, 0), (0, 0)), ((0, -1), (0, 0)), ((0, 0), (0,)),
                       ((0,), (0, 0)), ((0, 0), (0, 0, 0)), ((0, 0), (True, 0)), ((0, False), (1, 4)), ((0, 0), (0, 1.0)),
                       ((0, 0), None), ((0, 0), "00"), ("00", (0, 0)), ((0, 0), (0, None)), "0000", (0, 0),
                       {0: (0, 0), 1: (0, 0)}, ((0, 0), ((0, 0), 1)))


def told(frame):
    return frame.wide, frame.turns, frame.squares, frame.gaps


def starts_of(frame, far=5):
    return [(0,) * frame.wide] + [motion_of(frame, far)[0] for _ in range(frame.many - 1)]


def gained(frame, starts):
    """What s(c) + M_c s(d) - s(c d) has, for each two turns and each place, in one list."""
    found = []
    for c, d in itertools.product(range(frame.many), repeat=2):
        away = [-place for place in starts[frame.turns[c][d]]]
        found.extend(summed([0] * frame.wide, starts[c], taken(frame.squares[c], starts[d]), away))
    return found


def unit_starts(frame):
    """The starts that have a 1 at one place alone."""
    for turn, place in itertools.product(range(1, frame.many), range(frame.wide)):
        yield [[int((turn, place) == (c, at)) for at in range(frame.wide)] for c in range(frame.many)]


def is_told_moved(frame, other, value):
    """Whether any value, tuples all the way in, are starts by which other is frame moved."""
    if not isinstance(value, tuple) or len(value) != frame.many:
        return False
    if any(not isinstance(start, tuple) or len(start) != frame.wide for start in value):
        return False
    if any(type(place) is not int for start in value for place in start) or any(value[0]):
        return False
    return Frame(*told_moved(told(frame), value)) == other


def is_told_barred(frame, other, row, modulus):
    if not isinstance(row, tuple) or len(row) != frame.many ** 2 * frame.wide:
        return False
    if any(type(number) is not int for number in row) or type(modulus) is not int or modulus < 2:
        return False
    more = [one - own for one, own in zip(sum(sum(other.gaps, ()), ()), sum(sum(frame.gaps, ()), ()))]
    if sum(number * gap for number, gap in zip(row, more)) % modulus == 0:
        return False
    return all(sum(number * gain for number, gain in zip(row, gained(frame, starts))) % modulus == 0
               for starts in unit_starts(frame))


def pairs_alike():
    """Pairs of frames of the same wide, turns and squares, some of them moved to one another."""
    frames = [frame for frame in DOWN.values() if frame.many <= 4]
    frames += [Frame(*cyclic(many, 1, climb)) for many in (2, 3, 4) for climb in (2, 3, 4, 6, -1)]
    frames += [Frame(*flat(3, [square[0], square[1]])) for square in (SCREWS.squares[1:3],)]
    frames += [Frame(2, BOTTLE.turns, BOTTLE.squares, (BOTTLE.gaps[0], ((0, 0), (gap, 0)))) for gap in (0, 2, 3, -5)]
    for one, other in itertools.product(frames, repeat=2):
        if told(one)[:3] == told(other)[:3]:
            yield one, other


class MovedTest(unittest.TestCase):
    def test_gaps_by_the_words(self):
        random.seed(1)
        for name, frame in DOWN.items():
            for far in (1, 5, BIG):
                starts = starts_of(frame, far)
                made = moved(frame, starts)
                self.assertIs(type(made), Frame)
                self.assertTrue(made == Frame(*told_moved(told(frame), starts)))
                self.assertTrue(all_tuples(told(made)))
                self.assertTrue(moved(starts=tuple(map(list, starts)), frame=anew(frame)) == made)
                back = [[-place for place in start] for start in starts]
                self.assertTrue(moved(made, back) == frame)

    def test_starts_of_0s_alone(self):
        for frame in DOWN.values():
            self.assertTrue(moved(frame, [[0] * frame.wide] * frame.many) == frame)

    def test_of_the_document(self):
        made = moved(BOTTLE, [(0, 0), (1, 4)])
        self.assertEqual(made.gaps, (((0, 0), (0, 0)), ((0, 0), (3, 0))))
        self.assertEqual((made.wide, made.turns, made.squares), (BOTTLE.wide, BOTTLE.turns, BOTTLE.squares))

    def test_what_is_passed_stays(self):
        starts = [[0, 0], [1, 4]]
        made = moved(BOTTLE, starts)
        self.assertEqual(starts, [[0, 0], [1, 4]])
        starts[1][0] = 9
        self.assertEqual(made.gaps[1][1], (3, 0))


class MovedMotionTest(unittest.TestCase):
    def test_less_the_start(self):
        random.seed(2)
        for frame in DOWN.values():
            starts = starts_of(frame, random.choice((2, BIG)))
            for shift, turn in [motion_of(frame, 4) for _ in range(4)]:
                found = moved_motion(frame, starts, (shift, turn))
                self.assertEqual(found, (tuple(one - own for one, own in zip(shift, starts[turn])), turn))
                self.assertTrue(all_tuples(found))
                self.assertEqual(moved_motion(motion=[list(shift), turn], starts=tuple(map(list, starts)), frame=frame),
                                 found)

    def test_products_are_told_as_products(self):
        random.seed(3)
        for frame in DOWN.values():
            starts = starts_of(frame, random.choice((2, BIG)))
            made = moved(frame, starts)
            for _ in range(5):
                one, other = motion_of(frame), motion_of(frame)
                self.assertEqual(moved_motion(frame, starts, frame.times(one, other)),
                                 made.times(moved_motion(frame, starts, one), moved_motion(frame, starts, other)))
            self.assertEqual(moved_motion(frame, starts, frame.still), made.still)

    def test_whatever_is_asked_has_one_answer(self):
        random.seed(4)
        for name, frame in DOWN.items():
            starts = starts_of(frame, 7)
            made = moved(frame, starts)
            self.assertIs(bool(ladder_of(made)), bool(ladder_of(frame)))
            self.assertTrue((is_told_ladder if ladder_of(made) else is_told_stuck)(made, ladder_of(made).steps))
            if frame.many <= 4:
                total = some_sum(frame, 3, 4)
                again = Sum(made, 3, [(moved_motion(frame, starts, motion), number) for motion, number in total.terms])
                self.assertEqual(determinant(again).terms, determinant(total).terms)


class StartBetweenTest(unittest.TestCase):
    def check(self, frame, other):
        paper = start_between(frame, other)
        self.assertIn(type(paper), (Moved, Barred))
        self.assertTrue(all_tuples(paper.parts))
        right = is_told_moved if type(paper) is Moved else is_told_barred
        self.assertTrue(right(frame, other, *paper.parts))
        self.assertTrue(start_between(other=anew(other), frame=anew(frame)) == paper)
        return paper

    def test_moved_by_drawn_starts(self):
        random.seed(5)
        for name, frame in DOWN.items():
            if frame.many <= 4:
                for far in (1, 9, BIG):
                    other = moved(frame, starts_of(frame, far))
                    self.assertIs(type(self.check(frame, other)), Moved)
                    self.assertIs(type(self.check(other, frame)), Moved)

    def test_pairs(self):
        seen = {}
        for one, other in pairs_alike():
            kind = type(self.check(one, other))
            seen[(one.many, kind)] = seen.get((one.many, kind), 0) + 1
        self.assertEqual(set(seen), {(1, Moved)} | set(itertools.product((2, 3, 4), (Moved, Barred))))
        self.assertGreater(min(seen.values()), 20)

    def test_which_climbs_are_alike(self):
        # s(1) adds its double to the climb of two turns, its triple to that of three, and so on.
        for many, one, other in itertools.product((2, 3, 4), range(-4, 6), range(-4, 6)):
            paper = self.check(Frame(*cyclic(many, 1, one)), Frame(*cyclic(many, 1, other)))
            self.assertIs(bool(paper), (other - one) % many == 0)

    def test_two_screws_and_half_turns_about_lines(self):
        still = Frame(*flat(3, SCREWS.squares[1:3]))
        self.assertTrue(still.squares == SCREWS.squares)
        self.assertIs(type(self.check(SCREWS, still)), Barred)
        self.assertIs(type(self.check(still, SCREWS)), Barred)
        self.assertIs(type(self.check(SCREWS, moved(SCREWS, [(0, 0, 0), (1, 2, 3), (BIG, 0, 5), (-7, 1, 1)]))), Moved)

    def test_of_the_document(self):
        stair = Frame(1, [[0, 1], [1, 0]], [[[1]], [[1]]], [[[0], [0]], [[0], [1]]])
        still = Frame(1, [[0, 1], [1, 0]], [[[1]], [[1]]], [[[0], [0]], [[0], [0]]])
        paper = self.check(stair, still)
        self.assertEqual((type(paper), len(paper.row), bool(paper)), (Barred, 4, False))
        self.assertTrue(start_between(still, moved(still, [[0], [BIG]])) == Moved([[0], [BIG]]))

    def test_one_turn_and_wide_0(self):
        for wide, word in ((0, "point"), (1, "line"), (2, "plane"), (3, "space")):
            self.assertTrue(start_between(DOWN[word], anew(DOWN[word])) == Moved([(0,) * wide]))
        for many in (2, 3, 4):
            frame = DOWN[f"cyclic {many} 0 0"]
            self.assertTrue(start_between(frame, anew(frame)) == Moved([()] * many))

    def test_in_a_short_time(self):
        random.seed(6)
        for name in ("two screws told otherwise 2", "two screws told otherwise 0", "fourth screw told otherwise 2"):
            frame = DOWN[name]
            start = time.perf_counter()
            other = moved(frame, starts_of(frame, BIG))
            self.assertIs(type(self.check(frame, other)), Moved)
            self.assertLess(time.perf_counter() - start, 5)


class WrongTest(unittest.TestCase):
    def check(self, kind, part, call, *parts):
        with self.assertRaises(kind) as caught:
            call(*parts)
        self.assertIs(type(caught.exception), kind)
        self.assertEqual(caught.exception.part, part)

    def test_moved(self):
        for frame in NO_FRAMES:
            for starts in ([(0, 0), (0, 0)], None):
                self.check(BadFrame, "frame", moved, frame, starts)
                self.check(BadFrame, "frame", moved_motion, frame, starts, None)
        for starts in NO_STARTS:
            self.check(BadNumber, "starts", moved, BOTTLE, starts)
            for motion in (((0, 0), 1), None):
                self.check(BadNumber, "starts", moved_motion, BOTTLE, starts, motion)
        for motion in NO_MOTIONS:
            self.check(BadMotion, "motion", moved_motion, BOTTLE, [(0, 0), (1, 4)], motion)

    def test_start_between(self):
        for value in NO_FRAMES:
            for other in (BOTTLE, value, LINE):
                self.check(BadFrame, "frame", start_between, value, other)
            self.check(BadFrame, "other", start_between, BOTTLE, value)
            self.check(BadFrame, "other", start_between, DOWN["quaternions"], value)

    def test_unlike_there(self):
        line, far = named("turned line"), DOWN["mirrors"]
        stair = Frame(1, [[0, 1], [1, 0]], [[[1]], [[1]]], [[[0], [0]], [[0], [1]]])
        for one, other, part in (
                (LINE, BOTTLE, "wide"), (line, named("plane"), "wide"), (far, LINE, "wide"),
                (DOWN["cyclic 8 1 0"], DOWN["cyclic 8 2 0"], "wide"), (LINE, line, "turns"), (SCREWS, far, "turns"),
                (DOWN["cyclic 4 3 0"], SCREWS, "turns"), (named("third screw"), named("fourth screw"), "turns"),
                (DOWN["quaternions"], far, "turns"), (stair, line, "squares"), (BOTTLE, named("half turns"), "squares"),
                (DOWN["cyclic 4 3 1"], named("fourth screw"), "squares"), (DOWN["exchange"], BOTTLE, "squares"),
                (DOWN["cyclic 6 2 0"], DOWN["six turns"], "squares"),
                (DOWN["bottle"], DOWN["bottle told otherwise 0"], "squares")):
            self.check(Misfit, part, start_between, one, other)
            self.check(Misfit, part, start_between, other, one)

    def test_too_many_turns(self):
        for many in range(5, 9):
            for wide in range(4):
                frame = DOWN[f"cyclic {many} {wide} 0"]
                for other in (frame, anew(frame), DOWN[f"cyclic {many} {wide} 5"]):
                    with self.assertRaises(TooMany) as caught:
                        start_between(frame, other)
                    self.assertEqual((caught.exception.what, caught.exception.most), ("turns", 4))


class PapersTest(unittest.TestCase):
    def test_moved(self):
        for paper in (Moved([[0], [1]]), Moved(starts=((0,), [1]))):
            self.assertEqual((paper.word, paper.parts, paper.starts), ("moved", (((0,), (1,)),), ((0,), (1,))))
            self.assertIs(bool(paper), True)
            self.assertIsInstance(paper, Paper)
            self.assertNotIsInstance(paper, Denial)
            self.assertTrue(paper == Moved(([0], (1,))))
            self.assertFalse(paper == Moved(([0], (2,))))
            self.assertFalse(paper == Paper("moved", [[0], [1]]))
        self.assertEqual((Moved("a").starts, Moved(None).parts), ("a", (None,)))


if __name__ == "__main__":
    unittest.main()
