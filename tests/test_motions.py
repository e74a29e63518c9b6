import itertools
import random
import unittest

from screwsums.errors import BadFrame, BadMotion, BadNumber
from screwsums.frames import Frame
from screwsums.motions import by_turn, carried, is_motion
from screwsums.named import named
from tests.lawful import NAMES, NO_FRAMES, NO_INTEGERS, NO_ROWS, all_tuples, lawful_frames

BOTTLE = named("bottle")
FRAMES = [Frame(*told) for told in lawful_frames().values()] + [named(name) for name in NAMES]
NO_MOTIONS = NO_ROWS + (
    (), [], ((1, 2),), ((1, 2), 1, 1), [[1, 2], 2], ((1, 2), -1), ((1, 2), 10 ** 30), ((1, 2, 3), 1), ((1,), 1),
    ((), 1), ((1, 2), True), ((1, 2), False), ((1, True), 1), ((False, 2), 1), ((1, 2), None), ((1, 2), "1"),
    ((1, 2), 1.0), ((1.0, 2), 1), (("1", 2), 1), ("12", 1), (1, (1, 2)), (((1, 2),), 1), ((1, 2), (1,)),
    {0: (1, 2), 1: 1}, (None, 1), ({1: 1, 2: 2}, 1), "((1, 2), 1)")


def part_of(test, kind, call, *passed):
    with test.assertRaises(kind) as caught:
        call(*passed)
    test.assertIs(type(caught.exception), kind)
    return caught.exception.part


class IsMotionTest(unittest.TestCase):
    def test_motions(self):
        for frame in FRAMES:
            for turn in range(frame.many):
                for place in (0, -5, 10 ** 40):
                    for shift in ((place,) * frame.wide, [place] * frame.wide):
                        self.assertIs(is_motion(frame, (shift, turn)), True)
                        self.assertIs(is_motion(frame, [shift, turn]), True)
        self.assertIs(is_motion(value=((1, 2), 1), frame=BOTTLE), True)

    def test_one_beyond(self):
        for frame in FRAMES:
            for value in (((0,) * frame.wide, frame.many), ((0,) * frame.wide, -1), ((0,) * (frame.wide + 1), 0),
                          ((0,) * frame.wide,), (0,) * frame.wide, ((0,) * frame.wide, 0, 0)):
                self.assertIs(is_motion(frame, value), False)
            if frame.wide > 0:
                self.assertIs(is_motion(frame, ((0,) * (frame.wide - 1), 0)), False)

    def test_values_of_all_kinds(self):
        for value in NO_MOTIONS:
            self.assertIs(is_motion(BOTTLE, value), False)

    def test_no_frame(self):
        for value in NO_FRAMES:
            for motion in (((1, 2), 1), None):
                self.assertEqual(part_of(self, BadFrame, is_motion, value, motion), "frame")


class ByTurnTest(unittest.TestCase):
    def test_all_orders(self):
        motions = [((-1, 9), 0), ((0, -5), 0), ((0, 5), 0), ((2, -7), 0), ((-3, 0), 1), ((0, 9), 1), ((1, 0), 1)]
        for order in itertools.islice(itertools.permutations(motions), 0, None, 37):
            self.assertEqual(by_turn(BOTTLE, list(order)), tuple(motions))

    def test_equal_ones_all_stand(self):
        told = [((1, 0), 1), [[1, 0], 1], ((0, 1), 0), ([1, 0], 1), [(0, 1), 0]]
        self.assertEqual(repr(by_turn(BOTTLE, told)), repr((((0, 1), 0),) * 2 + (((1, 0), 1),) * 3))

    def test_every_frame(self):
        random.seed(5)
        for frame in FRAMES:
            told = [[[random.randint(-2, 2) for _ in range(frame.wide)], random.randrange(frame.many)]
                    for _ in range(30)]
            before = repr(told)
            found = by_turn(frame, told)
            self.assertTrue(all_tuples(found))
            self.assertEqual(repr(told), before)
            for one, other in zip(found, found[1:]):
                self.assertLessEqual((one[1], one[0]), (other[1], other[0]))
            pairs = [(tuple(shift), turn) for shift, turn in told]
            self.assertEqual([found.count(pair) for pair in pairs], [pairs.count(pair) for pair in pairs])
            self.assertEqual(len(found), 30)
            self.assertEqual(by_turn(frame, tuple(pairs)), found)

    def test_none_and_by_name(self):
        self.assertEqual(repr(by_turn(BOTTLE, [])), "()")
        self.assertEqual(by_turn(motions=(((1, 2), 1),), frame=BOTTLE), (((1, 2), 1),))

    def test_wrong(self):
        for value in NO_MOTIONS:
            for motions in ([value], [BOTTLE.still, value], (value, BOTTLE.still)):
                self.assertEqual(part_of(self, BadMotion, by_turn, BOTTLE, motions), "motions")
        for value in NO_ROWS + (BOTTLE.still, "", {}, set(), {BOTTLE.still: 1}):
            self.assertEqual(part_of(self, BadMotion, by_turn, BOTTLE, value), "motions")

    def test_no_frame(self):
        for value in NO_FRAMES:
            for motions in ([], None):
                self.assertEqual(part_of(self, BadFrame, by_turn, value, motions), "frame")


class CarriedTest(unittest.TestCase):
    def test_as_told(self):
        for frame in FRAMES:
            shifts = [tuple(int(row == at) for at in range(frame.wide)) for row in range(frame.wide)]
            shifts.append(tuple(7 - 4 * at for at in range(frame.wide)))
            shifts.append(tuple(10 ** 29 + at for at in range(frame.wide)))
            for turn in range(frame.many):
                motion = (tuple(3 * at - 8 for at in range(frame.wide)), turn)
                for shift in shifts:
                    found = carried(frame, motion, shift)
                    self.assertTrue(all_tuples(found))
                    self.assertEqual(frame.product([motion, (shift, 0), frame.undone(motion)]), (found, 0))

    def test_lists_and_names(self):
        self.assertEqual(repr(carried(BOTTLE, [[7, 7], 1], [2, 3])), "(2, -3)")
        self.assertEqual(carried(shift=(2, 3), motion=((7, 7), 1), frame=BOTTLE), (2, -3))
        self.assertEqual(carried(Frame(0, [[0]], [[]], [[[]]]), ((), 0), []), ())

    def test_wrong(self):
        for value in NO_MOTIONS:
            for shift in ((1, 2), None):
                self.assertEqual(part_of(self, BadMotion, carried, BOTTLE, value, shift), "motion")
        for value in NO_ROWS + NO_INTEGERS + (0, [], (1,), (1, 2, 3), (1, True), (1, None), ("1", 2), "12", [[1, 2]],
                                              [1, [2]], (1, 2.0), {1: 1, 2: 2}):
            self.assertEqual(part_of(self, BadNumber, carried, BOTTLE, BOTTLE.still, value), "shift")

    def test_no_frame(self):
        for value in NO_FRAMES:
            for motion, shift in ((BOTTLE.still, (1, 2)), (None, None)):
                self.assertEqual(part_of(self, BadFrame, carried, value, motion, shift), "frame")

    def test_what_is_passed_stays(self):
        motion, shift = [[1, 2], 1], [3, 4]
        carried(BOTTLE, motion, shift)
        self.assertEqual((motion, shift), ([[1, 2], 1], [3, 4]))


if __name__ == "__main__":
    unittest.main()
