import random
import unittest

from screwsums.errors import BadSum
from screwsums.named import named
from screwsums.sums import Sum, still_sum
from screwsums.tables import table_of
from tests.plain import BIG, FRAMES, PRIMES, anew, some_sum, table
from tests.test_sums import CHOSEN, NO_SUMS, steps


class TableTest(unittest.TestCase):
    def check(self, total):
        found, rows = table_of(total), table(total)
        self.assertIs(type(found), tuple)
        self.assertEqual(len(found), total.frame.many)
        for row, told in zip(found, rows):
            self.assertIs(type(row), tuple)
            self.assertEqual(len(row), total.frame.many)
            for entry, numbers in zip(row, told):
                self.assertIs(type(entry), Sum)
                self.assertTrue(entry.frame == total.frame)
                self.assertEqual(entry.by, total.by)
                self.assertEqual(entry.terms, tuple(((shift, 0), numbers[shift]) for shift in sorted(numbers)))
        return found

    def test_rows_and_columns(self):
        random.seed(1)
        for name, frame in FRAMES.items():
            for by in (PRIMES if name in CHOSEN else (5,)):
                total = some_sum(frame, by, 20, random.choice((2, BIG)))
                found = self.check(total)
                for c, row in enumerate(found):
                    start = Sum(frame, by, [((frame.still[0], c), 1)])
                    for e, entry in enumerate(row):
                        self.assertTrue(start.times(total).at_turn(e) == entry)
                self.assertTrue(table_of(total=Sum(anew(frame), by, total.terms)) == found)

    def test_of_a_product(self):
        random.seed(2)
        for name in CHOSEN:
            frame = FRAMES[name]
            one, other = some_sum(frame, 3, 6), some_sum(frame, 3, 6)
            left, right, found = table_of(one), table_of(other), table_of(one.times(other))
            for c in range(frame.many):
                for e in range(frame.many):
                    made = Sum(frame, 3, [])
                    for d in range(frame.many):
                        made = made.plus(left[c][d].times(right[d][e]))
                    self.assertTrue(found[c][e] == made)
            both = table_of(one.plus(other))
            self.assertTrue(all(both[c][e] == left[c][e].plus(right[c][e])
                                for c in range(frame.many) for e in range(frame.many)))

    def test_single_motions(self):
        bottle = named("bottle")
        found = self.check(Sum(bottle, 7, [(((2, 5), 1), 3)]))
        self.assertEqual([[entry.terms for entry in row] for row in found],
                         [[(), ((((2, 5), 0), 3),)], [((((3, -5), 0), 3),), ()]])
        for name in CHOSEN:
            frame = FRAMES[name]
            for turn in range(frame.many):
                found = self.check(Sum(frame, 7, [(((4,) * frame.wide, turn), 3)]))
                for row in found:
                    self.assertEqual(sorted(len(entry.terms) for entry in row), [0] * (frame.many - 1) + [1])

    def test_still_and_no_terms(self):
        for frame in FRAMES.values():
            found, none = self.check(still_sum(frame, 2)), self.check(Sum(frame, 2, []))
            for c in range(frame.many):
                for e in range(frame.many):
                    self.assertEqual(found[c][e].terms, still_sum(frame, 2).terms if c == e else ())
                    self.assertEqual(none[c][e].terms, ())

    def test_many_terms(self):
        random.seed(3)
        self.check(some_sum(FRAMES["moved quaternions"], 13, 1000, BIG))
        total = steps(FRAMES["two screws"], 2500, 2, 3)
        total = total.plus(total.times(Sum(total.frame, 3, [(((1, 1, 1), 3), 2)])))
        self.assertEqual(len(total.terms), 5000)
        self.check(total)

    def test_no_sum(self):
        for value in NO_SUMS:
            with self.assertRaises(BadSum) as caught:
                table_of(value)
            self.assertEqual(caught.exception.part, "total")


if __name__ == "__main__":
    unittest.main()
