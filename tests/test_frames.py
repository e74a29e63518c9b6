import itertools
import time
import unittest
import unittest.mock

from screwsums.errors import BadFrame, BadMotion, BadNumber
from screwsums.frames import Frame
from tests.lawful import NO_INTEGERS, NO_ROWS, SWAP, all_tuples, cyclic, lawful_frames, no_gaps, summed, taken, unit

FRAMES = {name: Frame(*told) for name, told in lawful_frames().items()}


def told_times(frame, one, other):
    """The product as the document tells it."""
    (v, c), (w, d) = one, other
    return tuple(summed(v, taken(frame.squares[c], w), frame.gaps[c][d])), frame.turns[c][d]


def some_motions(frame):
    shifts = [tuple((3 * at + 2) * sign for at in range(frame.wide)) for sign in (0, 1, -1)]
    shifts.append(tuple(10 ** 29 + at for at in range(frame.wide)))
    return [(shift, turn) for shift in shifts for turn in range(frame.many)]


def no_motions(frame):
    """Values that are no motions of a frame of wide 2."""
    return NO_ROWS + ((), [], ((0, 0),), ((0, 0), 0, 0), ((0,), 0), ((0, 0, 0), 0), ((0, 0), frame.many),
                      ((0, 0), -1), ((0, 0), True), ((0, True), 0), ((0, 0), None), ((0, 0), "0"), ("00", 0),
                      (0, (0, 0)), ((0, 0), 0.0), ((0, 0.0), 0), ((0, [0]), 0), ((0, 0), [0]), {0: (0, 0), 1: 0},
                      (None, 0), ({0: 0, 1: 0}, 0))


class MadeTest(unittest.TestCase):
    def test_attributes(self):
        for name, told in lawful_frames().items():
            with self.subTest(name=name):
                frame = Frame(*told)
                self.assertEqual((frame.wide, frame.many), (told[0], len(told[1])))
                for part, passed in zip((frame.turns, frame.squares, frame.gaps), told[1:]):
                    self.assertTrue(all_tuples(part))
                    self.assertEqual(repr(part).replace(",)", ")"),
                                     repr(passed).replace("[", "(").replace("]", ")"))
                self.assertEqual(repr(frame.still), repr(((0,) * told[0], 0)))

    def test_by_name(self):
        frame = Frame(gaps=[[()]], squares=[[]], turns=[(0,)], wide=0)
        self.assertEqual((frame.wide, frame.many, frame.turns, frame.squares, frame.gaps, frame.still),
                         (0, 1, ((0,),), ((),), (((),),), ((), 0)))

    def test_what_is_passed_is_copied(self):
        turns, squares, gaps = [[0, 1], [1, 0]], [[[1]], [[1]]], no_gaps(2, 1)
        frame = Frame(1, turns, squares, gaps)
        turns[1][1] = squares[1][0][0] = gaps[1][1][0] = 5
        turns.clear()
        self.assertEqual((frame.turns, frame.squares), (((0, 1), (1, 0)), (((1,),), ((1,),))))
        self.assertEqual(frame.power(((0,), 1), 2), ((0,), 0))

    def test_equal(self):
        told = list(lawful_frames().values())
        frames = [Frame(*row) for row in told]
        for one, row in zip(frames, told):
            for other, further in zip(frames, told):
                self.assertIs(one == other, row == further)
                self.assertIs(one != other, row != further)
        self.assertTrue(Frame(1, SWAP, [[[1]], [[1]]], no_gaps(2, 1))
                        == Frame(1, ((0, 1), (1, 0)), (((1,),), ((1,),)), [[(0,), (0,)], ([0], [0])]))

    def test_unequal_to_values_of_other_classes(self):
        frame = FRAMES["bottle"]
        for value in (None, True, 2, "bottle", (frame.wide, frame.turns, frame.squares, frame.gaps), frame.turns, [],
                      object(), Frame, unittest.mock.ANY):
            self.assertIs(frame == value, False)
            self.assertIs(frame != value, True)

    def test_each_part_tells_frames_apart(self):
        frames = [Frame(1, SWAP, [[[1]], [[1]]], no_gaps(2, 1)), Frame(1, SWAP, [[[1]], [[-1]]], no_gaps(2, 1)),
                  Frame(1, SWAP, [[[1]], [[1]]], [[[0], [0]], [[0], [1]]]), Frame(0, SWAP, [[], []], no_gaps(2, 0)),
                  Frame(1, [[0]], [[[1]]], no_gaps(1, 1)), Frame(2, SWAP, [unit(2)] * 2, no_gaps(2, 2)),
                  Frame(*cyclic(4, 0)), Frame(0, [[c ^ d for d in range(4)] for c in range(4)], [[]] * 4,
                                              no_gaps(4, 0))]
        for one, other in itertools.permutations(frames, 2):
            self.assertFalse(one == other)

    def test_refused(self):
        units = [[[1]], [[1]]]
        for part, told in (("wide", (4, None, None, None)), ("wide", (True, SWAP, units, no_gaps(2, 1))),
                           ("turns", (1, [[0, 2], [2, 0]], None, None)), ("squares", (1, SWAP, [[[1]]], None)),
                           ("gaps", (1, SWAP, units, [[[0], [0]]])),
                           ("gaps", (1, [[1, 1], [1, 1]], units, None)),
                           ("fault", (1, [[0, 1], [1, 1]], units, no_gaps(2, 1))),
                           ("fault", (1, [[1, 0], [0, 1]], units, no_gaps(2, 1))),
                           ("fault", (1, SWAP, [[[1]], [[2]]], no_gaps(2, 1))),
                           ("fault", (1, SWAP, [[[2]], [[1]]], no_gaps(2, 1))),
                           ("fault", (1, SWAP, [[[1]], [[-1]]], [[[0], [0]], [[0], [1]]])),
                           ("fault", (1, SWAP, units, [[[0], [1]], [[0], [0]]])),
                           ("fault", (0, [[0, 1, 2], [1, 0, 0], [2, 0, 0]], [[]] * 3, no_gaps(3, 0)))):
            with self.subTest(told=told):
                with self.assertRaises(BadFrame) as caught:
                    Frame(*told)
                self.assertEqual(caught.exception.part, part)


class TimesTest(unittest.TestCase):
    def test_as_told(self):
        for name, frame in FRAMES.items():
            with self.subTest(name=name):
                for one, other in itertools.product(some_motions(frame), repeat=2):
                    found = frame.times(one, other)
                    self.assertEqual(found, told_times(frame, one, other))
                    self.assertTrue(all_tuples(found))

    def test_lists_and_names(self):
        frame = FRAMES["bottle"]
        self.assertEqual(frame.times([[1, 2], 1], ([3, 4], 1)), ((5, -2), 0))
        self.assertEqual(frame.times(other=((1, 2), 1), one=((3, 4), 0)), ((4, 6), 1))

    def test_refused(self):
        frame = FRAMES["bottle"]
        for value in no_motions(frame):
            for other in (frame.still, value, None):
                with self.assertRaises(BadMotion) as caught:
                    frame.times(value, other)
                self.assertEqual(caught.exception.part, "one")
            with self.assertRaises(BadMotion) as caught:
                frame.times(frame.still, value)
            self.assertEqual(caught.exception.part, "other")


class UndoneTest(unittest.TestCase):
    def test_both_ways_round(self):
        for name, frame in FRAMES.items():
            with self.subTest(name=name):
                for motion in some_motions(frame):
                    back = frame.undone(motion)
                    self.assertTrue(all_tuples(back))
                    self.assertEqual(told_times(frame, motion, back), frame.still)
                    self.assertEqual(told_times(frame, back, motion), frame.still)
                    self.assertEqual(frame.undone(back), motion)

    def test_lists_and_names(self):
        self.assertEqual(FRAMES["bottle"].undone(motion=[[2, 5], 1]), ((-3, 5), 1))
        self.assertEqual(FRAMES["cyclic 1 0 0"].undone([[], 0]), ((), 0))

    def test_refused(self):
        for value in no_motions(FRAMES["bottle"]):
            with self.assertRaises(BadMotion) as caught:
                FRAMES["bottle"].undone(value)
            self.assertEqual(caught.exception.part, "motion")


class PowerTest(unittest.TestCase):
    def test_every_number(self):
        for name in ("bottle", "moved two screws", "cyclic 7 1 5", "moved quaternions", "cyclic 1 0 0", "triangle"):
            frame = FRAMES[name]
            for motion in some_motions(frame)[frame.many:2 * frame.many]:
                for sign, step in ((1, motion), (-1, frame.undone(motion))):
                    done = frame.still
                    for number in range(1001):
                        self.assertEqual(frame.power(motion, sign * number), done)
                        done = told_times(frame, done, step)

    def test_all_frames(self):
        for name, frame in FRAMES.items():
            with self.subTest(name=name):
                for motion in some_motions(frame):
                    self.assertEqual(repr(frame.power(motion, 0)), repr(frame.still))
                    self.assertEqual(repr(frame.power([list(motion[0]), motion[1]], 1)), repr(motion))
                    self.assertEqual(frame.power(motion, -1), frame.undone(motion))
                    self.assertEqual(frame.power(motion, 1000), frame.undone(frame.power(motion, -1000)))
                    self.assertEqual(frame.power(motion, 9), frame.product([motion] * 9))

    def test_by_name(self):
        self.assertEqual(FRAMES["bottle"].power(number=2, motion=((0, 5), 1)), ((1, 0), 0))

    def test_refused(self):
        frame = FRAMES["bottle"]
        for value in NO_INTEGERS + (1001, -1001, 10 ** 30, "2"):
            with self.assertRaises(BadNumber) as caught:
                frame.power(((1, 0), 0), value)
            self.assertEqual(caught.exception.part, "number")
        for value in no_motions(frame):
            for number in (2, 1001, None):
                with self.assertRaises(BadMotion) as caught:
                    frame.power(value, number)
                self.assertEqual(caught.exception.part, "motion")


class ProductTest(unittest.TestCase):
    def test_as_told(self):
        for name, frame in FRAMES.items():
            with self.subTest(name=name):
                motions = (some_motions(frame) * 60)[:60]
                done = frame.still
                for many in range(61):
                    self.assertEqual(frame.product(motions[:many]), done)
                    if many < 60:
                        done = told_times(frame, done, motions[many])

    def test_lists_and_names(self):
        frame = FRAMES["bottle"]
        self.assertEqual(repr(frame.product([])), "((0, 0), 0)")
        self.assertEqual(repr(frame.product([[[1, 2], 1]])), "((1, 2), 1)")
        self.assertEqual(frame.product(motions=([[1, 2], 1], ((0, 1), 0))), ((1, 1), 1))

    def test_refused(self):
        frame = FRAMES["bottle"]
        still = frame.still
        values = [value for value in no_motions(frame) if value not in ((), [])]
        for value in values + [[still] * 61, [still] * 61 + [None], still, [still, ()]]:
            with self.assertRaises(BadMotion) as caught:
                frame.product(value)
            self.assertEqual(caught.exception.part, "motions")
        for value in no_motions(frame):
            for motions in ([value], [still, value], (value, still)):
                with self.assertRaises(BadMotion) as caught:
                    frame.product(motions)
                self.assertEqual(caught.exception.part, "motions")


class StaysTest(unittest.TestCase):
    def test_what_is_passed_stays(self):
        frame = FRAMES["two screws"]
        before = repr(sorted(vars(frame).items()))
        one, other = [[1, 2, 3], 1], [[4, 5, 6], 2]
        motions = [one, other, one]
        frame.times(one, other)
        frame.undone(one)
        frame.power(one, 5)
        frame.power(one, -5)
        frame.product(motions)
        self.assertRaises(BadMotion, frame.product, motions + [None])
        self.assertEqual(repr((one, other)), "([[1, 2, 3], 1], [[4, 5, 6], 2])")
        self.assertEqual(repr(motions), "[[[1, 2, 3], 1], [[4, 5, 6], 2], [[1, 2, 3], 1]]")
        self.assertEqual(repr(sorted(vars(frame).items())), before)

    def test_at_once(self):
        begun = time.perf_counter()
        for name in ("moved quaternions", "moved mirrors", "square"):
            frame = Frame(*lawful_frames()[name])
            for turn in range(frame.many):
                frame.power(((10 ** 29,) * frame.wide, turn), 1000)
                frame.power(((10 ** 29,) * frame.wide, turn), -1000)
        self.assertLess(time.perf_counter() - begun, 5)


if __name__ == "__main__":
    unittest.main()
