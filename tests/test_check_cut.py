import itertools
import random
import time
import unittest

from screwsums.check_cut import shows_cut, shows_cut_right
from screwsums.cut import Clear, Cut, cut, cut_right
from screwsums.errors import BadSum, TooMany
from screwsums.faults import Fault
from screwsums.named import named
from screwsums.papers import Denial, Paper
from screwsums.sums import Sum, still_sum
from screwsums.undone import Nought, Undone
from tests.lawful import NO_ROWS
from tests.plain import BIG, FRAMES, PRIMES, anew, full_sum, less_motion, powers_sum, some_sum, times
from tests.plain import determinant as told_determinant
from tests.test_check_undone import bent_sums
from tests.test_cut import cut_sums
from tests.test_determinants import MOST, bound_sums
from tests.test_sums import NO_SUMS, steps
from tests.test_undone import with_backs

BOTTLE, FLAT = named("bottle"), named("turned line")
BOTH = (shows_cut, shows_cut_right)


class Further(Cut):
    """Not made by calling Cut."""


class Below(Clear):
    """Not made by calling Clear."""


def told_cut(total, other, call):
    """Whether a Sum cuts a sum, by multiplying term by term."""
    if not other.terms or other.by != total.by or other.frame != total.frame:
        return False
    return (times(other, total) if call is shows_cut else times(total, other)) == ()


class ShowsCutTest(unittest.TestCase):
    def test_what_cut_returns(self):
        random.seed(1)
        for name, frame in FRAMES.items():
            for by in (2, 13):
                for many in range(4):
                    total = some_sum(frame, by, many, random.choice((1, BIG)))
                    for again in (total, Sum(anew(frame), by, total.terms)):
                        self.assertIs(shows_cut(again, cut(total)), True)
                        self.assertIs(shows_cut_right(again, cut_right(total)), True)

    def test_cut(self):
        random.seed(2)
        seen = {True: 0, False: 0}
        for name, frame, back in with_backs():
            if frame.many > 5:
                continue
            for total in cut_sums(frame, 3, back)[:8]:
                for call, right in ((shows_cut, cut(total).other), (shows_cut_right, cut_right(total).other)):
                    self.assertIs(call(total, Cut(right)), True)
                    self.assertIs(call(total, Cut(right.scaled(2))), True)
                    self.assertIs(call(total, Cut(total)), told_cut(total, total, call))
                    self.assertIs(call(total, Cut(Sum(frame, 3, []))), False)
                    for bent in itertools.islice(bent_sums(right), 12):
                        told = told_cut(total, bent, call)
                        self.assertIs(call(total, Cut(bent)), told)
                        seen[told] += 1
                    alone = Sum(frame, 3, [(((2,) * frame.wide, frame.many - 1), 2)])
                    further = alone.times(right) if call is shows_cut else right.times(alone)
                    self.assertIs(call(total, Cut(further)), True)
                    self.assertIs(call(total, Clear(frame.still[0])), False)
        self.assertGreater(seen[False], 300)

    def test_from_the_left_and_from_the_right(self):
        along, over = Sum(FLAT, 3, [(((1,), 0), 1)]), Sum(FLAT, 3, [(((0,), 0), 1), (((0,), 1), 1)])
        total = along.times(Sum(FLAT, 3, [(((0,), 0), 1), (((0,), 1), -1)]))
        left = over.times(along.flipped())
        others = [left, over, along, total, along.times(left), over.times(along), along.times(over)]
        others.extend([other.flipped() for other in others])
        for asked in (total, total.flipped()):
            for call in BOTH:
                told = [told_cut(asked, other, call) for other in others]
                self.assertEqual([call(asked, Cut(other)) for other in others], told)
                self.assertEqual(set(told), {True, False})
        self.assertEqual([shows_cut(total, Cut(other)) for other in (left, over)], [True, False])
        self.assertEqual([shows_cut_right(total.flipped(), Cut(other.flipped())) for other in (left, over)],
                         [True, False])

    def test_still_less_what_comes_back(self):
        for name, frame, back in with_backs():
            for by in (2, 7):
                one, other = less_motion(frame, by, back.motion), powers_sum(frame, by, back)
                for call in BOTH:
                    self.assertIs(call(one, Cut(other)), True)
                    self.assertIs(call(one, Cut(still_sum(frame, by))), False)
                    if len(other.terms) <= MOST[frame.many]:
                        self.assertIs(call(other, Cut(one)), True)

    def test_clear(self):
        totals = [Sum(BOTTLE, 2, [(((3, 0), 0), 1), (((-1, 5), 0), 1)]), Sum(FLAT, 5, [(((2,), 0), 1), (((0,), 1), 2)]),
                  Sum(named("line"), 3, [(((at,), 0), 1) for at in (-2, 0, 1)]), still_sum(BOTTLE, 5),
                  Sum(FLAT, 3, [(((0,), 0), 1), (((0,), 1), -1)]), Sum(FLAT, 3, []), still_sum(FRAMES["two points"], 2)]
        for total in totals:
            shifts = [shift for (shift, _), _ in told_determinant(total)]
            beside = [shift[:at] + (shift[at] + step,) + shift[at + 1:]
                      for shift in shifts for at in range(total.frame.wide) for step in (-1, 1, BIG)]
            for shift in shifts + beside + list(itertools.product(range(-6, 7), repeat=total.frame.wide)):
                for call in BOTH:
                    self.assertIs(call(total, Clear(shift)), shift in shifts)
                    self.assertIs(call(total, Clear(list(shift))), shift in shifts)
        glide = Sum(BOTTLE, 2, [(((0, 0), 0), 1), (((0, 0), 1), 1)])
        for shift in NO_ROWS + ((0,), (0, 0, 0), (0, False), (True, 0), (1.0, 0), "00", ("0", 0), ((0, 0),), ((0, 0), 0),
                                0, {0: 0, 1: 0}, (None, 0), (10 ** 50, 0), (0, -10 ** 50), Paper("a", 0, 0)):
            for call in BOTH:
                self.assertIs(call(glide, Clear(shift)), False)
        for call in BOTH:
            self.assertEqual([call(glide, Clear(shift)) for shift in ([0, 0], (1, 0))], [True, True])

    def test_of_the_sum_without_terms(self):
        none = Sum(BOTTLE, 3, [])
        for call in BOTH:
            self.assertIs(call(none, Cut(Sum(BOTTLE, 3, [(((1, 2), 1), 2), (((0, 2), 1), 1)]))), True)
            for other in (none, still_sum(BOTTLE, 2), still_sum(FLAT, 3)):
                self.assertIs(call(none, Cut(other)), False)
            self.assertIs(call(none, Clear((0, 0))), False)

    def test_another_frame_or_prime(self):
        one, less = [Sum(FLAT, 3, [(((0,), 0), 1), (((0,), 1), sign)]) for sign in (1, -1)]
        for call in BOTH:
            self.assertIs(call(one, Cut(less)), True)
            self.assertIs(call(one, Cut(Sum(anew(FLAT), 3, less.terms))), True)
            for frame in (BOTTLE, FRAMES["cyclic 2 1 0"], FRAMES["cyclic 2 0 0"], named("half turns")):
                terms = [(((0,) * frame.wide, turn), number) for (_, turn), number in less.terms]
                self.assertIs(call(one, Cut(Sum(frame, 3, terms))), False)
            for by in PRIMES:
                self.assertIs(call(one, Cut(Sum(FLAT, by, [(((0,), 0), 1), (((0,), 1), -1)]))), by == 3)

    def test_other_values(self):
        for total in (Sum(FLAT, 3, [(((0,), 0), 1), (((0,), 1), 1)]), Sum(FLAT, 3, []), still_sum(FLAT, 2)):
            paper = cut(total)
            parts = paper.parts
            for call in BOTH:
                for value in (None, True, False, 0, "cut", (), [], {}, object(), Cut, Clear, parts, parts[0],
                              Paper(paper.word, *parts), Denial(paper.word, *parts), Nought(parts[0]),
                              Undone(parts[0]), Fault("gap", (1,)), Further(parts[0]), Below(parts[0])):
                    self.assertIs(call(total, value), False)
                for other in NO_SUMS + (total.terms, Clear((0,)), [total], (cut(total),)):
                    self.assertIs(call(total, Cut(other)), False)

    def test_by_name(self):
        none = Sum(FLAT, 3, [])
        for call in BOTH:
            self.assertIs(call(value=Cut(other=still_sum(FLAT, 3)), total=none), True)

    def test_errors_ahead_of_the_value(self):
        for call in BOTH:
            for value in (None, Cut(still_sum(BOTTLE, 2)), Clear((0, 0))):
                for total in NO_SUMS:
                    with self.assertRaises(BadSum) as caught:
                        call(total, value)
                    self.assertEqual(caught.exception.part, "total")
                for many in range(1, 9):
                    frame = FRAMES[f"cyclic {many} 3 1"]
                    random.seed(many)
                    call(full_sum(frame, 2, MOST[many], 9, [0]), value)
                    with self.assertRaises(TooMany) as error:
                        call(full_sum(frame, 2, MOST[many] + 1, 9, [0]), value)
                    self.assertEqual((error.exception.what, error.exception.most), ("terms", MOST[many]))


class BoundsTest(unittest.TestCase):
    def test_clear_in_a_short_time(self):
        for total in bound_sums():
            paper = cut(total)
            start = time.perf_counter()
            for call in BOTH:
                self.assertIs(call(total, paper), True)
            self.assertLess(time.perf_counter() - start, 10)

    def test_long_sums(self):
        # More products, and more terms, than times lets come.
        flat = Sum(FLAT, 2, [(((0,), 0), 1), (((0,), 1), 1)])
        long = steps(FLAT, 2500, 5).times(flat)
        other = flat.times(steps(FLAT, 100, BIG))
        start = time.perf_counter()
        self.assertEqual(len(other.terms), 200)
        for total in (flat, other):
            self.assertIs(shows_cut(total, Cut(long)), True)
            self.assertIs(shows_cut_right(total, Cut(long)), False)
            self.assertIs(shows_cut_right(total.flipped(), Cut(long.flipped())), True)
            for call in BOTH:
                self.assertIs(call(total, Cut(steps(FLAT, 6000, 3))), False)
        self.assertLess(time.perf_counter() - start, 10)


if __name__ == "__main__":
    unittest.main()
