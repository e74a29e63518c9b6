import itertools
import random
import time
import unittest

from screwsums.check_undone import shows_undo
from screwsums.cut import Clear, Cut
from screwsums.errors import BadSum, TooMany
from screwsums.faults import Fault
from screwsums.frames import Frame
from screwsums.named import named
from screwsums.papers import Denial, Paper
from screwsums.returning import Back
from screwsums.sums import Sum, still_sum
from screwsums.undone import Nought, TwoShifts, Undone, undo
from tests.lawful import NO_ROWS, lawful_frames, moved
from tests.plain import BIG, FRAMES, PRIMES, anew, full_sum, gardam, less_motion, powers_sum, some_sum
from tests.plain import determinant as told_determinant
from tests.test_determinants import MOST, bound_sums
from tests.test_sums import NO_SUMS, steps
from tests.test_undone import undone_sums, with_backs

BOTTLE, FLAT, SCREWS = named("bottle"), named("turned line"), named("two screws")


class Further(Undone):
    """Not made by calling Undone."""


class Below(Nought):
    """Not made by calling Nought."""


def bent_sums(total):
    """Sums that differ from this one in one place: a number, a motion, the prime or the frame."""
    frame, by, terms = total.frame, total.by, total.terms
    for at, ((shift, turn), number) in enumerate(terms):
        rest = terms[:at] + terms[at + 1:]
        yield Sum(frame, by, rest)
        if by > 2:
            yield Sum(frame, by, rest + (((shift, turn), number % (by - 1) + 1),))
        for place in range(frame.wide):
            further = shift[:place] + (shift[place] + 1,) + shift[place + 1:]
            yield Sum(frame, by, rest + (((further, turn), number),))
        if frame.many > 1:
            yield Sum(frame, by, rest + (((shift, (turn + 1) % frame.many), number),))
    yield total.plus(Sum(frame, by, [(((7,) * frame.wide, 0), 1)]))
    yield Sum(frame, PRIMES[PRIMES.index(by) - 1], terms)
    other = Frame(frame.wide + 1, *more_wide(frame)) if frame.wide < 3 else FRAMES["moved quaternions"]
    other = FRAMES["quaternions"] if other == frame else other
    yield Sum(other, by, [((shift + (0,) * (other.wide - frame.wide), turn), number) for (shift, turn), number in terms])


def more_wide(frame):
    """The turns, squares and gaps of a frame that has one place more."""
    squares = [[list(row) + [0] for row in square] + [[0] * frame.wide + [1]] for square in frame.squares]
    return frame.turns, squares, [[gap + (0,) for gap in row] for row in frame.gaps]


class ShowsUndoTest(unittest.TestCase):
    def test_what_undo_returns(self):
        random.seed(1)
        for name, frame in FRAMES.items():
            for by in (2, 3, 13):
                for many in range(4):
                    total = some_sum(frame, by, many, random.choice((1, BIG)))
                    paper = undo(total)
                    self.assertIs(shows_undo(total, paper), True)
                    self.assertIs(shows_undo(Sum(anew(frame), by, total.terms), paper), True)

    def test_undone(self):
        random.seed(2)
        asked = [(Sum(BOTTLE, 7, [(((2, -1), 1), 3)]), None), (still_sum(named("line"), 2), None)]
        for name, frame, back in with_backs():
            asked.extend((total, name) for total in undone_sums(frame, random.choice((2, 3, 5)), back)[:2]
                         if len(total.terms) <= MOST[frame.many])
        for total, _ in asked:
            right = undo(total).other
            self.assertIs(shows_undo(total, Undone(right)), True)
            self.assertIs(shows_undo(total, Undone(Sum(anew(right.frame), right.by, right.terms))), True)
            self.assertIs(shows_undo(right, Undone(total)), True)
            self.assertIs(shows_undo(total, Undone(Sum(right.frame, right.by, []))), False)
            for bent in bent_sums(right):
                self.assertIs(shows_undo(total, Undone(bent)), False)
            for paper in (Nought(right), Nought(total), TwoShifts(total.frame.still[0], total.frame.still[0])):
                self.assertIs(shows_undo(total, paper), False)

    def test_sums_that_cannot_be_undone(self):
        flat = Sum(FLAT, 3, [(((0,), 0), 1), (((0,), 1), -1)])
        glide = Sum(BOTTLE, 2, [(((0, 0), 0), 1), (((0, 0), 1), 1)])
        for total in (flat, glide, Sum(FLAT, 3, []), Sum(BOTTLE, 2, [])):
            for other in (total, total.flipped(), still_sum(total.frame, total.by), total.scaled(2),
                          Sum(total.frame, total.by, []), total.plus(still_sum(total.frame, total.by))):
                self.assertIs(shows_undo(total, Undone(other)), False)

    def test_two_shifts(self):
        totals = [Sum(BOTTLE, 2, [(((3, 0), 0), 1), (((-1, 5), 0), 1)]), Sum(FLAT, 5, [(((2,), 0), 1), (((0,), 1), 2)]),
                  Sum(named("line"), 3, [(((at,), 0), 1) for at in (-2, 0, 1)]), still_sum(BOTTLE, 5),
                  Sum(FLAT, 3, [(((0,), 0), 1), (((0,), 1), -1)])]
        for total in totals:
            shifts = [shift for (shift, _), _ in told_determinant(total)]
            near = list(itertools.product(range(-4, 5), repeat=total.frame.wide)) + shifts
            random.seed(3)
            for low, high in [(one, other) for one in shifts for other in near] + [
                    (random.choice(near), random.choice(near)) for _ in range(300)]:
                right = low in shifts and high in shifts and low < high
                self.assertIs(shows_undo(total, TwoShifts(low, high)), right)
                self.assertIs(shows_undo(total, TwoShifts(list(low), list(high))), right)
        total = totals[0]
        for low in NO_ROWS + ((-2,), (-2, 0, 0), (-2, False), ("-2", 0), (-2.0, 0), -2, ((-2, 0),), (None, 0),
                              Paper("a"), ((-2, 0), 0), (-2 - 10 ** 40, 0), (BIG, BIG)):
            self.assertIs(shows_undo(total, TwoShifts(low, (6, 0))), False)
            self.assertIs(shows_undo(total, TwoShifts((-2, 0), low)), False)
        self.assertIs(shows_undo(Sum(BOTTLE, 2, [(((0, 0), 0), 1), (((0, 0), 1), 1)]), TwoShifts((0, 0), (True, 0))), False)

    def test_wide_0(self):
        for frame in (FRAMES["point"], FRAMES["two points"]):
            for total in (still_sum(frame, 3), Sum(frame, 3, [])):
                for low, high in (((), ()), ((), (0,)), (None, ()), (0, 1)):
                    self.assertIs(shows_undo(total, TwoShifts(low, high)), False)

    def test_nought(self):
        random.seed(4)
        for name, frame, back in with_backs():
            one, other = less_motion(frame, 3, back.motion), powers_sum(frame, 3, back)
            for total, left in ((one, other), (other, one)):
                if len(total.terms) > MOST[frame.many]:
                    continue
                alone = Sum(frame, 3, [(((5,) * frame.wide, frame.many - 1), 2)])
                for right in (left, left.scaled(2), alone.times(left), left.plus(alone.times(left))):
                    self.assertIs(shows_undo(total, Nought(right)), len(right.terms) > 0)
                for wrong in (total, Sum(frame, 3, []), still_sum(frame, 3), left.plus(alone)):
                    self.assertIs(shows_undo(total, Nought(wrong)), wrong.terms != () and wrong.times(total).terms == ())
                for bent in bent_sums(left):
                    right = bent.frame == frame and bent.by == 3 and bent.terms and not bent.times(total).terms
                    self.assertIs(shows_undo(total, Nought(bent)), bool(right))
                self.assertIs(shows_undo(total, Undone(left)), False)

    def test_from_the_other_side(self):
        along, over = Sum(FLAT, 3, [(((1,), 0), 1)]), Sum(FLAT, 3, [(((0,), 0), 1), (((0,), 1), 1)])
        total = along.times(Sum(FLAT, 3, [(((0,), 0), 1), (((0,), 1), -1)]))
        left = over.times(along.flipped())
        self.assertEqual((left.times(total).terms, total.times(over).terms), ((), ()))
        self.assertNotEqual(over.times(total).terms, ())
        self.assertEqual([shows_undo(total, Nought(other)) for other in (left, over)], [True, False])

    def test_of_the_sum_without_terms(self):
        none = Sum(BOTTLE, 3, [])
        for other in (still_sum(BOTTLE, 3), Sum(BOTTLE, 3, [(((1, 2), 1), 2), (((0, 2), 1), 1)])):
            self.assertIs(shows_undo(none, Nought(other)), True)
        for other in (none, still_sum(BOTTLE, 2), still_sum(FLAT, 3)):
            self.assertIs(shows_undo(none, Nought(other)), False)

    def test_another_frame_with_the_same_motions(self):
        told = moved(lawful_frames()["bottle"], [[0, 0], [1, 0]])
        total = Sum(BOTTLE, 7, [(((2, -1), 0), 3)])
        other = undo(total).other
        self.assertIs(shows_undo(total, Undone(Sum(Frame(*told), 7, other.terms))), False)
        self.assertIs(shows_undo(Sum(Frame(*told), 7, total.terms), Undone(other)), False)

    def test_other_values(self):
        for total in (Sum(FLAT, 3, [(((1,), 1), 2)]), Sum(FLAT, 3, []), Sum(FLAT, 2, [(((1,), 0), 1), (((0,), 0), 1)])):
            paper = undo(total)
            parts = paper.parts
            for value in (None, True, False, 0, "undone", (), [], {}, object(), Undone, Nought, parts, parts[0],
                          Paper(paper.word, *parts), Denial(paper.word, *parts), Cut(parts[0]), Clear(parts[0]),
                          Fault("gap", (1,)), Back(*paper.parts[:1], 2), Further(parts[0]), Below(parts[0])):
                self.assertIs(shows_undo(total, value), False)
            for other in NO_SUMS + (total.terms, TwoShifts((0,), (1,)), [total], (undo(total),)):
                self.assertIs(shows_undo(total, Undone(other)), False)
                self.assertIs(shows_undo(total, Nought(other)), False)

    def test_by_name(self):
        total = still_sum(BOTTLE, 3)
        self.assertIs(shows_undo(value=Undone(other=total), total=total), True)

    def test_errors_ahead_of_the_value(self):
        for value in (None, Undone(still_sum(BOTTLE, 2)), TwoShifts((0, 0), (1, 0)), Nought(still_sum(BOTTLE, 2))):
            for total in NO_SUMS:
                with self.assertRaises(BadSum) as caught:
                    shows_undo(total, value)
                self.assertEqual(caught.exception.part, "total")
            for many in range(1, 9):
                frame = FRAMES[f"cyclic {many} 3 1"]
                random.seed(many)
                with self.assertRaises(TooMany) as error:
                    shows_undo(full_sum(frame, 2, MOST[many] + 1, 9, [0]), value)
                self.assertEqual((error.exception.what, error.exception.most), ("terms", MOST[many]))


class BoundsTest(unittest.TestCase):
    def test_two_shifts_in_a_short_time(self):
        for total in bound_sums():
            paper = undo(total)
            start = time.perf_counter()
            self.assertIs(shows_undo(total, paper), True)
            self.assertIs(shows_undo(total, TwoShifts(paper.parts[-1], paper.parts[0])), False)
            self.assertLess(time.perf_counter() - start, 10)

    def test_long_sums(self):
        # More products, and more terms, than times lets come.
        total = gardam(SCREWS)
        long = steps(SCREWS, 4000, BIG)
        line = Sum(named("line"), 2, [(((at * at,), 0), 1) for at in range(200)])
        start = time.perf_counter()
        for paper in (Undone(long), Nought(long)):
            self.assertIs(shows_undo(total, paper), False)
        for paper in (Undone(steps(line.frame, 6600)), Nought(steps(line.frame, 6600))):
            self.assertIs(shows_undo(line, paper), False)
        self.assertIs(shows_undo(Sum(SCREWS, 2, []), Nought(long)), True)
        flat = Sum(FLAT, 2, [(((0,), 0), 1), (((0,), 1), 1)])
        self.assertIs(shows_undo(flat, Nought(steps(FLAT, 2500, 5).times(flat))), True)
        self.assertIs(shows_undo(flat, Nought(steps(FLAT, 6000, 5))), False)
        self.assertLess(time.perf_counter() - start, 10)


if __name__ == "__main__":
    unittest.main()
