import itertools
import unittest

from screwsums.errors import BadFrame, BadNumber, TooMany
from screwsums.faults import fault_of
from screwsums.frames import Frame
from screwsums.named import beside, named
from tests.lawful import NAMES, NO_FRAMES, NO_INTEGERS, NO_ROWS, all_tuples, cyclic, flat, lawful_frames

UP = (0, 0, 1)
# Of each word: the wide, the products of turns, where the squares take a shift, and the gaps that are told.
TABLE = {
    "line": (1, [[0]], [lambda x: (x,)], {}),
    "plane": (2, [[0]], [lambda x, y: (x, y)], {}),
    "space": (3, [[0]], [lambda x, y, z: (x, y, z)], {}),
    "turned line": (1, [[0, 1], [1, 0]], [lambda x: (x,), lambda x: (-x,)], {}),
    "half turns": (2, [[0, 1], [1, 0]], [lambda x, y: (x, y), lambda x, y: (-x, -y)], {}),
    "bottle": (2, [[0, 1], [1, 0]], [lambda x, y: (x, y), lambda x, y: (x, -y)], {(1, 1): (1, 0)}),
    "two screws": (
        3, [[0, 1, 2, 3], [1, 0, 3, 2], [2, 3, 0, 1], [3, 2, 1, 0]],
        [lambda x, y, z: (x, y, z), lambda x, y, z: (x, -y, -z), lambda x, y, z: (-x, y, -z),
         lambda x, y, z: (-x, -y, z)],
        {(1, 1): (1, 0, 0), (2, 2): (0, 1, 0), (3, 3): (0, 0, 1), (2, 1): (-1, 1, -1), (1, 3): (1, 0, 0),
         (2, 3): (-1, 0, -1), (3, 1): (0, -1, 1), (3, 2): (0, -1, 0)}),
    "third screw": (
        3, [[0, 1, 2], [1, 2, 0], [2, 0, 1]],
        [lambda x, y, z: (x, y, z), lambda x, y, z: (-y, x - y, z), lambda x, y, z: (y - x, -x, z)],
        {(1, 2): UP, (2, 1): UP, (2, 2): UP}),
    "fourth screw": (
        3, [[0, 1, 2, 3], [1, 2, 3, 0], [2, 3, 0, 1], [3, 0, 1, 2]],
        [lambda x, y, z: (x, y, z), lambda x, y, z: (-y, x, z), lambda x, y, z: (-x, -y, z),
         lambda x, y, z: (y, -x, z)],
        {(1, 3): UP, (2, 2): UP, (2, 3): UP, (3, 1): UP, (3, 2): UP, (3, 3): UP}),
}
FRAMES = {name: Frame(*told) for name, told in lawful_frames().items()}
LINE, PLANE, SPACE, BOTTLE = named("line"), named("plane"), named("space"), named("bottle")


def turns_alone(many):
    return Frame(*cyclic(many, 0))


def shifts(wide):
    return [tuple(shift) for shift in itertools.product((-2, 0, 3), repeat=wide)]


class NamedTest(unittest.TestCase):
    def test_as_the_table_tells(self):
        self.assertEqual(sorted(TABLE), sorted(NAMES))
        for name, (wide, turns, taken, gaps) in TABLE.items():
            with self.subTest(name=name):
                frame = named(name)
                self.assertIs(type(frame), Frame)
                self.assertEqual((frame.wide, frame.many), (wide, len(turns)))
                self.assertEqual(frame.turns, tuple(map(tuple, turns)))
                for turn in range(frame.many):
                    for shift in shifts(wide):
                        made = frame.times(((0,) * wide, turn), (shift, 0))
                        self.assertEqual(made, (taken[turn](*shift), turn))
                told = tuple(tuple(gaps.get((c, d), (0,) * wide) for d in range(frame.many))
                             for c in range(frame.many))
                self.assertEqual(frame.gaps, told)
                self.assertTrue(all_tuples((frame.turns, frame.squares, frame.gaps)))

    def test_lawful(self):
        for name in NAMES:
            frame = named(name)
            self.assertIsNone(fault_of(frame.wide, frame.turns, frame.squares, frame.gaps))
            self.assertEqual(named(word=name), frame)
        self.assertEqual(named("third screw"), FRAMES["third screw"])
        self.assertEqual(named("two screws"), FRAMES["two screws"])

    def test_wrong(self):
        for value in NO_INTEGERS + NO_ROWS + ("", "Line", "line ", "knot", b"line", ["line"], ("line",), {"line": 1},
                                              "two_screws", "screw", 0, "turned", LINE):
            with self.assertRaises(BadNumber) as caught:
                named(value)
            self.assertEqual(caught.exception.part, "word")


class BesideTest(unittest.TestCase):
    def pairs(self):
        few = [LINE, PLANE, SPACE, BOTTLE] + [named(name) for name in NAMES[3:]]
        few += [turns_alone(many) for many in (1, 2, 3, 4, 8)]
        few += [FRAMES[name] for name in ("triangle", "square", "quaternions", "cyclic 2 1 5", "cyclic 3 1 1")]
        few.append(Frame(*flat(1, [[[-1]]])))
        for one, other in itertools.product(few, repeat=2):
            if one.wide + other.wide <= 3 and one.many * other.many <= 8:
                yield one, other

    def test_part_by_part(self):
        seen = set()
        for one, other in self.pairs():
            seen.add((one.wide, one.many, other.wide, other.many))
            both = beside(one, other)
            self.assertIs(type(both), Frame)
            self.assertEqual((both.wide, both.many), (one.wide + other.wide, one.many * other.many))
            every = list(itertools.product(range(one.many), range(other.many)))
            for (c, d), (e, f) in itertools.product(every, repeat=2):
                motions = [((tuple(3 * at - 2 for at in range(one.wide)), c),
                            (tuple(5 - 2 * at for at in range(one.wide)), e)),
                           ((tuple(7 * at - 1 for at in range(other.wide)), d),
                            (tuple(4 - at for at in range(other.wide)), f))]
                left, right = one.times(*motions[0]), other.times(*motions[1])
                told = [(a[0] + b[0], a[1] * other.many + b[1]) for a, b in zip(*motions)]
                self.assertEqual(both.times(*told), (left[0] + right[0], left[1] * other.many + right[1]))
                self.assertEqual(both.gaps[told[0][1]][told[1][1]], one.gaps[c][e] + other.gaps[d][f])
                self.assertEqual(both.turns[told[0][1]][told[1][1]], one.turns[c][e] * other.many + other.turns[d][f])
        self.assertGreater(len(seen), 30)

    def test_lawful(self):
        for one, other in self.pairs():
            both = beside(other=other, one=one)
            self.assertIsNone(fault_of(both.wide, both.turns, both.squares, both.gaps))
            self.assertEqual(beside(one, other), both)

    def test_alone(self):
        for frame in FRAMES.values():
            self.assertEqual(beside(frame, turns_alone(1)), frame)
            self.assertEqual(beside(turns_alone(1), frame), frame)
        self.assertEqual(beside(LINE, PLANE), SPACE)
        self.assertEqual(beside(beside(LINE, LINE), LINE), SPACE)
        self.assertEqual(beside(LINE, LINE), PLANE)

    def test_bounds(self):
        self.assertEqual(beside(PLANE, LINE).wide, 3)
        self.assertEqual(beside(turns_alone(4), BOTTLE).many, 8)
        self.assertEqual(beside(turns_alone(2), turns_alone(4)).many, 8)
        self.assertEqual(beside(turns_alone(8), SPACE).many, 8)

    def too_many(self, one, other):
        with self.assertRaises(TooMany) as caught:
            beside(one, other)
        return caught.exception.what, caught.exception.most

    def test_one_beyond(self):
        for one, other in ((SPACE, LINE), (LINE, SPACE), (PLANE, BOTTLE), (SPACE, SPACE)):
            self.assertEqual(self.too_many(one, other), ("wide", 3))
        for one, other in ((turns_alone(3), turns_alone(3)), (turns_alone(8), BOTTLE), (BOTTLE, turns_alone(5)),
                           (turns_alone(8), turns_alone(8)), (FRAMES["triangle"], turns_alone(2))):
            self.assertEqual(self.too_many(one, other), ("turns", 8))
        self.assertEqual(self.too_many(FRAMES["quaternions"], BOTTLE), ("wide", 3))

    def test_no_frames(self):
        for value in NO_FRAMES:
            for other in (SPACE, value):
                with self.assertRaises(BadFrame) as caught:
                    beside(value, other)
                self.assertEqual(caught.exception.part, "one")
            with self.assertRaises(BadFrame) as caught:
                beside(SPACE, value)
            self.assertEqual(caught.exception.part, "other")


if __name__ == "__main__":
    unittest.main()
