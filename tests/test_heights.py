import itertools
import random
import unittest
from math import gcd

from screwsums.errors import BadFrame, BadMotion, BadNumber
from screwsums.heights import height, heights
from screwsums.named import named
from tests.downward import DOWN, free_rows, is_told_row, told_height
from tests.lawful import NO_FRAMES, NO_ROWS, all_tuples
from tests.plain import BIG, anew, motion_of

BOTTLE = named("bottle")
NO_MOTIONS = NO_ROWS + ((), ((0, 0),), ((0,), 0), ((0, 0), 2), ((0, 0), -1), ((0, 0), True), ((0, False), 0),
                        ((0, 0), 0, 0), ("00", 0), ((0, 0), "0"), ((0, 0.0), 1))
NO_ROWS_OF_BOTTLE = NO_ROWS + ((), (0,), (0, 0, 0), (1,), (0, 1), (1, -1), (BIG, 1), (True, 0), (1, False), (1.0, 0),
                               ("1", 0), "10", ((1, 0),), 1, None, {1: 1, 0: 0})


def minors(rows, wide):
    """The determinants of the rows in any columns."""
    for columns in itertools.combinations(range(wide), len(rows)):
        square = [[row[column] for column in columns] for row in rows]
        total = 0
        for order in itertools.permutations(range(len(rows))):
            product = -1 if sum(a > b for a, b in itertools.combinations(order, 2)) % 2 else 1
            for row, at in zip(square, order):
                product *= row[at]
            total += product
        yield total


class HeightsTest(unittest.TestCase):
    def check(self, frame):
        rows = heights(frame)
        self.assertIs(type(rows), tuple)
        self.assertTrue(all_tuples(rows))
        for row in rows:
            self.assertTrue(is_told_row(frame, row))
        self.assertEqual(len(rows), free_rows(frame))
        # All rows of the frame are made with whole numbers exactly if no prime divides all of these.
        self.assertEqual(gcd(*minors(rows, frame.wide)), 1)
        self.assertEqual(heights(frame=anew(frame)), rows)
        return rows

    def test_all_frames(self):
        seen = set()
        for name, frame in DOWN.items():
            with self.subTest(name=name):
                seen.add((frame.wide, len(self.check(frame))))
        self.assertEqual(seen, {(wide, many) for wide in range(4) for many in range(wide + 1)})

    def test_rows_made_by_the_basis(self):
        for name in ("exchange", "exchange told otherwise 1", "three places", "bottle told otherwise 0"):
            frame = DOWN[name]
            (row,) = self.check(frame)
            for further in itertools.product(range(-6, 7), repeat=frame.wide):
                if is_told_row(frame, further):
                    often = [one // own for one, own in zip(further, row) if own][0]
                    self.assertEqual(further, tuple(often * own for own in row))

    def test_of_the_document(self):
        self.assertIn(heights(BOTTLE), (((1, 0),), ((-1, 0),)))
        for word, many in (("line", 1), ("plane", 2), ("space", 3), ("turned line", 0), ("half turns", 0),
                           ("two screws", 0), ("third screw", 1), ("fourth screw", 1)):
            self.assertEqual(len(self.check(named(word))), many)
        self.assertIn(heights(named("third screw")), (((0, 0, 1),), ((0, 0, -1),)))
        for many in range(1, 9):
            self.assertEqual(heights(DOWN[f"cyclic {many} 0 0"]), ())

    def test_no_frame(self):
        for value in NO_FRAMES:
            with self.assertRaises(BadFrame) as caught:
                heights(value)
            self.assertEqual(caught.exception.part, "frame")


class HeightTest(unittest.TestCase):
    def test_as_told(self):
        random.seed(1)
        for name, frame in DOWN.items():
            for row in heights(frame) + ((0,) * frame.wide,):
                for often in (1, -1, 3, BIG):
                    further = tuple(often * place for place in row)
                    for turn in range(frame.many):
                        for motion in ((motion_of(frame, 5)[0], turn), (motion_of(frame, BIG)[0], turn)):
                            found = height(frame, further, motion)
                            self.assertIs(type(found), int)
                            self.assertEqual(found, told_height(frame, further, motion))
                            self.assertEqual(height(frame, list(further), [list(motion[0]), turn]), found)

    def test_heights_add(self):
        random.seed(2)
        for name, frame in DOWN.items():
            for row in heights(frame):
                self.assertEqual(height(frame, row, frame.still), 0)
                for _ in range(12):
                    one, other = motion_of(frame, 9), motion_of(frame, BIG)
                    self.assertEqual(height(frame, row, frame.times(one, other)),
                                     height(frame, row, one) + height(frame, row, other))
                    self.assertEqual(height(frame, row, frame.undone(one)), -height(frame, row, one))
                    self.assertEqual(height(frame, row, frame.power(one, 5)), 5 * height(frame, row, one))

    def test_by_two_rows(self):
        frame, motion = named("space"), ((2, 3, 5), 0)
        for row in itertools.product((-1, 0, 1, 7), repeat=3):
            self.assertEqual(height(frame, row, motion), 2 * row[0] + 3 * row[1] + 5 * row[2])

    def test_no_shift_no_height(self):
        for name in ("turned line", "half turns", "two screws", "cyclic 8 0 0", "point"):
            frame = DOWN[name]
            for turn in range(frame.many):
                self.assertEqual(height(motion=((7,) * frame.wide, turn), row=(0,) * frame.wide, frame=frame), 0)

    def test_wrong(self):
        for frame in NO_FRAMES:
            for row, motion in (((1, 0), ((0, 0), 0)), (None, None)):
                with self.assertRaises(BadFrame) as caught:
                    height(frame, row, motion)
                self.assertEqual(caught.exception.part, "frame")
        for row in NO_ROWS_OF_BOTTLE:
            for motion in (((0, 0), 0), None):
                with self.assertRaises(BadNumber) as caught:
                    height(BOTTLE, row, motion)
                self.assertEqual(caught.exception.part, "row")
        for motion in NO_MOTIONS:
            for row in ((1, 0), [0, 0]):
                with self.assertRaises(BadMotion) as caught:
                    height(BOTTLE, row, motion)
                self.assertEqual(caught.exception.part, "motion")


if __name__ == "__main__":
    unittest.main()
