import itertools
import random
import unittest

from screwsums.errors import BadFrame, BadMotion
from screwsums.frames import Frame
from screwsums.named import beside, named
from screwsums.papers import Denial, Paper
from screwsums.returning import Away, Back, comes_back, returns
from tests.lawful import NAMES, NO_FRAMES, NO_ROWS, all_tuples, cyclic, lawful_frames, moved, unit

FRAMES = {name: Frame(*told) for name, told in lawful_frames().items()}
FRAMES.update({name: named(name) for name in NAMES})
FRAMES.update({f"{one} beside {other}": beside(named(one), named(other)) for one, other in (
    ("turned line", "bottle"), ("bottle", "turned line"), ("half turns", "line"), ("line", "bottle"),
    ("turned line", "half turns"))})
# A screw told from a start of 30 digits: what its motions add up to has such integers, too.
FRAMES["far"] = Frame(*moved(lawful_frames()["fourth screw"], [[0, 0, 0]] + [[10 ** 29 + c, -c, 5 * 10 ** 29]
                                                                             for c in (1, 2, 3)]))
FRAMES["far mirror"] = Frame(1, [[0, 1], [1, 0]], [[[1]], [[1]]], [[[0], [0]], [[0], [10 ** 30 - 2]]])
FRAMES["far glide"] = Frame(1, [[0, 1], [1, 0]], [[[1]], [[1]]], [[[0], [0]], [[0], [10 ** 30 - 1]]])


def told_powers(frame, motion, many):
    """The powers 1 to many, one motion behind another."""
    done = [motion]
    while len(done) < many:
        done.append(frame.times(done[-1], motion))
    return done


def told_returns(frame, motion):
    if motion == frame.still:
        return 1
    powers = told_powers(frame, motion, 8)
    return powers.index(frame.still) + 1 if frame.still in powers else 0


def told_rows(frame, turn):
    """N_c and the negative of s_c, by what the powers of some motions are."""
    many = [power[1] for power in told_powers(frame, (frame.still[0], turn), 8)].index(0) + 1
    start = told_powers(frame, (frame.still[0], turn), many)[-1][0]
    columns = []
    for shift in unit(frame.wide):
        power = told_powers(frame, (tuple(shift), turn), many)[-1][0]
        columns.append([one - other for one, other in zip(power, start)])
    return [list(row) for row in zip(*columns)], [-place for place in start]


def some_motions(frame):
    shifts = [shift for shift in itertools.product((-1, 0, 1, 2), repeat=frame.wide)]
    shifts.append(tuple(10 ** 29 - at for at in range(frame.wide)))
    return [(shift, turn) for shift in shifts for turn in range(frame.many)]


class ComesBackTest(unittest.TestCase):
    def check_barred(self, frame, turn, row, modulus):
        rows, goals = told_rows(frame, turn)
        self.assertEqual({type(number) for number in (modulus, *row)}, {int})
        self.assertEqual(len(row), frame.wide)
        self.assertGreaterEqual(modulus, 2)
        for column in zip(*rows):
            self.assertEqual(sum(one * other for one, other in zip(row, column)) % modulus, 0)
        self.assertNotEqual(sum(one * other for one, other in zip(row, goals)) % modulus, 0)

    def check(self, frame):
        paper = comes_back(frame)
        self.assertTrue(all_tuples(paper.parts))
        if type(paper) is Back:
            self.assertIs(bool(paper), True)
            self.assertGreater(paper.motion[1], 0)
            powers = told_powers(frame, paper.motion, paper.times)
            self.assertEqual([power == frame.still for power in powers], [False] * (paper.times - 1) + [True])
            self.assertIs(type(paper.times), int)
        else:
            self.assertIs(type(paper), Away)
            self.assertIs(bool(paper), False)
            self.assertEqual(len(paper.rows), frame.many - 1)
            for turn, (row, modulus) in enumerate(paper.rows, start=1):
                self.check_barred(frame, turn, row, modulus)
        again = comes_back(Frame(frame.wide, [list(row) for row in frame.turns], frame.squares, frame.gaps))
        self.assertTrue(again == paper)
        return paper

    def test_all_frames(self):
        seen = {Back: 0, Away: 0}
        for name, frame in FRAMES.items():
            with self.subTest(name=name):
                paper = self.check(frame)
                seen[type(paper)] += 1
                first = min([motion[1] for motion in some_motions(frame) if told_returns(frame, motion) > 1],
                            default=None)
                if first is not None:
                    self.assertEqual(paper.word, "back")
                    self.assertLessEqual(paper.motion[1], first)
        self.assertGreater(min(seen.values()), 30)

    def test_first_turn(self):
        # Of each frame the first turn of which some motion comes back; None if there is none.
        for name, turn in (("line", None), ("plane", None), ("space", None), ("turned line", 1), ("half turns", 1),
                           ("bottle", None), ("two screws", None), ("third screw", None), ("fourth screw", None),
                           ("triangle", 1), ("square", 1), ("mirrors", 1), ("turned line beside bottle", 2),
                           ("bottle beside turned line", 1), ("half turns beside line", 1),
                           ("line beside bottle", None), ("cyclic 4 1 1", None), ("cyclic 4 1 5", None),
                           ("cyclic 5 1 5", 1), ("cyclic 8 0 0", 1), ("cyclic 6 2 0", 1), ("far", None),
                           ("moved two screws", None), ("moved mirrors", 1), ("far mirror", 1), ("far glide", None)):
            with self.subTest(name=name):
                paper = self.check(FRAMES[name])
                self.assertEqual(paper.motion[1] if paper else None, turn)

    def test_a_turn_that_stays_away_ahead_of_one_that_comes_back(self):
        # Turn 1 is half a shift, turn 2 two of them: turn 2 less a shift comes back, turn 1 never.
        for many, climb, first in ((4, 2, 2), (6, 2, 3), (6, 3, 2), (8, 4, 2), (8, 2, 4), (8, 6, 4), (6, 4, 3)):
            frame = Frame(*cyclic(many, 1, climb))
            self.assertEqual(self.check(frame).motion[1], first)

    def test_one_turn(self):
        for frame in (named("line"), named("space"), Frame(0, [[0]], [[]], [[[]]])):
            self.assertEqual((comes_back(frame).word, comes_back(frame).parts), ("away", ((),)))

    def test_wide_0(self):
        for many in range(2, 9):
            frame = Frame(*cyclic(many, 0))
            self.assertEqual(comes_back(frame), Back(((), 1), many))
        self.assertEqual(comes_back(frame=FRAMES["cyclic 2 0 0"]).parts, (((), 1), 2))

    def test_told_from_other_starts(self):
        random.seed(7)
        for name, told in lawful_frames().items():
            starts = [[0] * told[0]] + [[random.randint(-9, 9) for _ in range(told[0])] for _ in told[1][1:]]
            one, other = comes_back(FRAMES[name]), self.check(Frame(*moved(told, starts)))
            self.assertIs(type(one), type(other))
            if one:
                self.assertEqual((one.motion[1], one.times), (other.motion[1], other.times))

    def test_no_frame(self):
        for value in NO_FRAMES:
            with self.assertRaises(BadFrame) as caught:
                comes_back(value)
            self.assertEqual(caught.exception.part, "frame")


class ReturnsTest(unittest.TestCase):
    def test_as_the_powers_tell(self):
        seen = set()
        for name, frame in FRAMES.items():
            with self.subTest(name=name):
                for motion in some_motions(frame):
                    found = returns(frame, motion)
                    self.assertIs(type(found), int)
                    self.assertEqual(found, told_returns(frame, motion))
                    self.assertEqual(returns(frame, [list(motion[0]), motion[1]]), found)
                    if found:
                        self.assertEqual(frame.power(motion, found), frame.still)
                    seen.add(found)
                self.assertEqual(returns(frame, frame.still), 1)
        self.assertEqual(seen, set(range(9)))

    def test_powers_of_what_comes_back(self):
        for name in ("triangle", "square", "six turns", "turned line beside bottle", "moved mirrors"):
            frame = FRAMES[name]
            back = comes_back(frame)
            for number in range(-9, 10):
                power = frame.power(back.motion, number)
                self.assertEqual(returns(frame, power), told_returns(frame, power))
                self.assertGreater(returns(frame, power), 0)

    def test_by_name(self):
        self.assertEqual(returns(motion=((9,), 1), frame=named("turned line")), 2)

    def test_wrong(self):
        frame = named("bottle")
        for value in NO_ROWS + ((), ((0, 0),), ((0,), 0), ((0, 0), 2), ((0, 0), -1), ((0, 0), True), ((0, False), 0),
                                ((0, 0), 0, 0), ("00", 0), ((0, 0), "0"), ((0, 0.0), 1)):
            with self.assertRaises(BadMotion) as caught:
                returns(frame, value)
            self.assertEqual(caught.exception.part, "motion")
        for value in NO_FRAMES:
            for motion in (frame.still, None):
                with self.assertRaises(BadFrame) as caught:
                    returns(value, motion)
                self.assertEqual(caught.exception.part, "frame")

    def test_what_is_passed_stays(self):
        motion = [[1, 2], 1]
        returns(named("half turns"), motion)
        self.assertEqual(motion, [[1, 2], 1])


class PapersTest(unittest.TestCase):
    def test_back(self):
        for paper in (Back([[1], 2], 3), Back(times=3, motion=((1,), 2)), Back(((1,), 2), times=3)):
            self.assertEqual((paper.word, paper.parts), ("back", (((1,), 2), 3)))
            self.assertEqual((paper.motion, paper.times), (((1,), 2), 3))
            self.assertIs(bool(paper), True)
            self.assertNotIsInstance(paper, Denial)
            self.assertTrue(paper == Back(((1,), 2), 3))
            self.assertFalse(paper == Back(((1,), 2), 4))
            self.assertFalse(paper == Paper("back", ((1,), 2), 3))
        self.assertEqual(Back(None, [[]]).parts, (None, ((),)))

    def test_away(self):
        for paper in (Away([[[1], 2]]), Away(rows=(((1,), 2),))):
            self.assertEqual((paper.word, paper.parts, paper.rows), ("away", ((((1,), 2),),), (((1,), 2),)))
            self.assertIs(bool(paper), False)
            self.assertIsInstance(paper, Denial)
            self.assertTrue(paper == Away([((1,), 2)]))
            self.assertFalse(paper == Away([((1,), 3)]))
            self.assertFalse(paper == Denial("away", (((1,), 2),)))
        self.assertEqual(Away("x").rows, "x")


if __name__ == "__main__":
    unittest.main()
