import itertools
import random
import time
import unittest
from math import gcd, prod

from screwsums.errors import BadFrame
from screwsums.firstsums import first_sums
from screwsums.frames import Frame
from screwsums.heights import heights
from screwsums.moved import moved
from screwsums.named import beside, named
from tests.downward import DOWN, FAR, free_rows, reshaped
from tests.lawful import NAMES, NO_FRAMES, all_tuples, cyclic, flat
from tests.plain import BIG, anew, motion_of
from tests.test_moved import starts_of, told

BOTTLE = named("bottle")
FOLD = [[[-1, 0, 0], [0, 1, 0], [0, 0, 1]], [[1, 0, 0], [0, -1, 0], [0, 0, 1]], [[1, 0, 0], [0, 1, 0], [0, 0, -1]]]


def single_motions(frame):
    """The shifts of one step and the motions (0s, c), the still one left out."""
    units = [tuple(int(at == place) for at in range(frame.wide)) for place in range(frame.wide)]
    return [(shift, 0) for shift in units] + [(frame.still[0], turn) for turn in range(1, frame.many)]


def counted(frame, motion):
    """How often each of the single motions is taken in a motion, their order forgotten."""
    return list(motion[0]) + [int(motion[1] == turn) for turn in range(1, frame.many)]


def forgotten(frame):
    """Rows of the counts of what is nothing: one motion times another one, and both."""
    rows = []
    for one, other in itertools.product(single_motions(frame), repeat=2):
        product = counted(frame, frame.times(one, other))
        rows.append([made - left - right for made, left, right in
                     zip(product, counted(frame, one), counted(frame, other))])
    return rows


def told_first_sums(frame):
    """By exchanging rows and columns and adding them to one another, with integers of any length."""
    rows, many = forgotten(frame), frame.wide + frame.many - 1
    found = []
    while any(any(row) for row in rows):
        size, at, place = min((abs(number), at, place) for at, row in enumerate(rows)
                              for place, number in enumerate(row) if number)
        lead = rows[at]
        for row in rows:
            if row is not lead:
                often = row[place] // lead[place]
                row[:] = [number - often * other for number, other in zip(row, lead)]
        for column in range(len(lead)):
            if column != place:
                often = lead[column] // lead[place]
                for row in rows:
                    row[column] -= often * row[place]
        alone = all(row is lead or row[place] == 0 for row in rows) and lead.count(0) == len(lead) - 1
        if not alone:
            continue
        further = [row for row in rows if any(number % size for number in row)]
        if further:
            lead[:] = [number + other for number, other in zip(lead, further[0])]
            continue
        found.append(size)
        rows = [row[:place] + row[place + 1:] for row in rows if row is not lead]
    return many - len(found), tuple(factor for factor in found if factor > 1)


def ways(frame, rest):
    """How many ways there are to give each motion a rest such that a product has the sum."""
    single = single_motions(frame)
    products = [frame.times(one, other) for one, other in itertools.product(single, repeat=2)]
    rows = [counted(frame, product) for product in products]
    pairs = list(itertools.product(range(len(single)), repeat=2))
    total = 0
    for rests in itertools.product(range(rest), repeat=len(single)):
        total += all(sum(often * own for often, own in zip(row, rests)) % rest == (rests[i] + rests[j]) % rest
                     for row, (i, j) in zip(rows, pairs))
    return total


def joined(*factors):
    """The factors of what is told by several ones side by side."""
    left = sorted(factor for part in factors for factor in part)
    for i, j in itertools.combinations(range(len(left)), 2):
        left[i], left[j] = gcd(left[i], left[j]), left[i] * left[j] // gcd(left[i], left[j])
    return tuple(factor for factor in left if factor > 1)


class FirstSumsTest(unittest.TestCase):
    def check(self, frame, expected=None):
        found = first_sums(frame)
        self.assertIs(type(found), tuple)
        self.assertTrue(all_tuples(found))
        free, factors = found
        self.assertIs(type(free), int)
        self.assertTrue(all(type(factor) is int and factor > 1 for factor in factors))
        self.assertTrue(all(above % below == 0 for below, above in itertools.pairwise(factors)))
        self.assertEqual(found, told_first_sums(frame) if expected is None else expected)
        self.assertEqual(first_sums(frame=anew(frame)), found)
        return found

    def test_words(self):
        told_so = {"line": (1, ()), "plane": (2, ()), "space": (3, ()), "turned line": (0, (2, 2)),
                   "half turns": (0, (2, 2, 2)), "bottle": (1, (2,)), "two screws": (0, (4, 4)),
                   "third screw": (1, (3,)), "fourth screw": (1, (2,))}
        for word in NAMES:
            self.check(named(word), told_so[word])
            self.check(named(word))

    def test_all_frames(self):
        for name, frame in DOWN.items():
            with self.subTest(name=name):
                free, _ = self.check(frame)
                self.assertEqual(free, free_rows(frame))
                self.assertEqual(free, len(heights(frame)))

    def test_ways_to_rests(self):
        for name, frame in DOWN.items():
            single = frame.wide + frame.many - 1
            for rest in range(2, 10):
                if rest ** single <= 5000:
                    free, factors = first_sums(frame)
                    self.assertEqual(ways(frame, rest), rest ** free * prod(gcd(rest, factor) for factor in factors))

    def test_wide_0(self):
        self.check(DOWN["point"], (0, ()))
        for many in range(2, 9):
            self.check(DOWN[f"cyclic {many} 0 0"], (0, (many,)))
        four = Frame(0, [[c ^ d for d in range(4)] for c in range(4)], [[]] * 4, [[[]] * 4] * 4)
        self.check(four, (0, (2, 2)))
        eight = Frame(0, [[c ^ d for d in range(8)] for c in range(8)], [[]] * 8, [[[]] * 8] * 8)
        self.check(eight, (0, (2, 2, 2)))
        turns = DOWN["quaternions"].turns
        self.check(Frame(0, turns, [[]] * 8, [[[]] * 8] * 8), (0, (2, 2)))
        turns = DOWN["six places"].turns
        self.check(Frame(0, turns, [[]] * 6, [[[]] * 6] * 6), (0, (2,)))

    def test_climbs(self):
        for many in range(1, 9):
            for climb in range(-9, 20):
                factor = gcd(many, climb)
                self.check(Frame(*cyclic(many, 1, climb)), (1, (factor,) if factor > 1 else ()))
            self.check(Frame(*cyclic(many, 1, BIG * 840)), (1, (many,) if many > 1 else ()))

    def test_beside(self):
        for one, other in itertools.product(NAMES, repeat=2):
            left, right = named(one), named(other)
            if left.wide + right.wide <= 3 and left.many * right.many <= 8:
                (free, factors), (more, further) = first_sums(left), first_sums(right)
                self.check(beside(left, right), (free + more, joined(factors, further)))
        # Factors of unlike primes make one.
        two, three = DOWN["cyclic 2 0 0"], DOWN["cyclic 3 0 0"]
        self.check(beside(two, three), (0, (6,)))
        self.check(beside(two, DOWN["cyclic 4 0 0"]), (0, (2, 4)))
        self.check(beside(three, DOWN["cyclic 2 3 0"]), (3, (6,)))

    def test_moved_and_told_by_other_shifts(self):
        random.seed(1)
        for name, frame in DOWN.items():
            found = first_sums(frame)
            self.check(moved(frame, starts_of(frame, random.choice((3, BIG)))), found)
            if frame.wide == 3:
                self.check(Frame(*reshaped(told(frame), *FAR)), found)

    def test_in_a_short_time(self):
        random.seed(2)
        frames = [Frame(*flat(3, FOLD)), DOWN["quaternions"], Frame(*cyclic(8, 3, BIG)), Frame(*cyclic(7, 3, BIG)),
                  DOWN["moved mirrors"], Frame(*cyclic(8, 3, 10 ** 30 - 8))]
        for frame in frames:
            other = moved(frame, starts_of(frame, BIG // 4))
            start = time.perf_counter()
            self.check(other, first_sums(frame))
            self.assertLess(time.perf_counter() - start, 4)

    def test_what_is_forgotten_of_drawn_motions(self):
        # Each way to integers by the heights, and each way to rests, gives a product the sum of both.
        random.seed(3)
        for name in ("two screws", "bottle", "third screw", "square", "quaternions"):
            frame = DOWN[name]
            rows = [row[:] for row in forgotten(frame)]
            for _ in range(6):
                one, other = motion_of(frame), motion_of(frame)
                product = counted(frame, frame.times(one, other))
                rows.append([made - left - right for made, left, right in
                             zip(product, counted(frame, one), counted(frame, other))])
            self.assertEqual(divisors_of_minors(rows), divisors_of_minors(forgotten(frame)))

    def test_no_frame(self):
        for value in NO_FRAMES:
            with self.assertRaises(BadFrame) as caught:
                first_sums(value)
            self.assertEqual(caught.exception.part, "frame")


def divisors_of_minors(rows):
    """The common divisors of the minors of one, of two and of three rows."""
    found = [gcd(*[number for row in rows for number in row])]
    some = [row for row in rows if any(row)]
    two = 0
    for (a, b), (i, j) in itertools.product(itertools.combinations(some, 2), itertools.combinations(range(len(rows[0])), 2)):
        two = gcd(two, a[i] * b[j] - a[j] * b[i])
    return found + [two]


if __name__ == "__main__":
    unittest.main()
