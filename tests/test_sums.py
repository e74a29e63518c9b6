import random
import time
import unittest

from screwsums.errors import BadFrame, BadNumber, BadSum, Misfit, TooMany
from screwsums.frames import Frame
from screwsums.named import named
from screwsums.papers import Paper
from screwsums.sums import Sum, still_sum
from tests.lawful import NO_FRAMES, NO_INTEGERS, NO_ROWS, all_tuples, moved, lawful_frames
from tests.plain import BIG, FRAMES, PRIMES, anew, full_sum, motion_of, ordered, some_sum, times

NO_SUMS = (None, True, 0, 1, "sum", (), [], {}, object(), Sum, b"sum", (((0, 0), 0), 1), Paper("sum"), named("bottle"))
LINE, BOTTLE, FLAT = named("line"), named("bottle"), named("turned line")
CHOSEN = ("line", "space", "bottle", "turned line", "half turns", "third screw", "two screws", "moved two screws",
          "fourth screw", "six turns", "moved quaternions", "cyclic 5 2 1", "cyclic 7 0 0", "two points", "point",
          "moved square", "turned line beside bottle")
# Of the prime 13, and by no other one, all of these are 0.
NUMBERS = (0, 1, -1, 5, -7, 26, -13, 10 ** 40, -10 ** 40 + 3, 2 ** 1000)


def caught(test, kind, call, *parts):
    with test.assertRaises(kind) as error:
        call(*parts)
    test.assertIs(type(error.exception), kind)
    return error.exception


class TermsTest(unittest.TestCase):
    def test_numbers_by_each_prime(self):
        for by in PRIMES:
            for number in NUMBERS:
                total = Sum(LINE, by, [(((4,), 0), number)])
                rest = number - number // by * by
                self.assertEqual(total.terms, ((((4,), 0), rest),) if rest else ())
            self.assertEqual(Sum(LINE, by, [(((1,), 0), by)] * 3).terms, ())
            self.assertEqual(Sum(LINE, by, [(((1,), 0), -1)]).terms, ((((1,), 0), by - 1),))

    def test_equal_motions_are_added(self):
        terms = [(((1, 2), 1), 4), [[[0, 9], 0], 1], [([1, 2], 1), 3], (((0, 9), 0), -1), (((0, -9), 1), 8)]
        self.assertEqual(Sum(BOTTLE, 5, terms).terms, ((((0, -9), 1), 3), (((1, 2), 1), 2)))
        self.assertEqual(Sum(BOTTLE, 7, terms).terms, ((((0, -9), 1), 1),))

    def test_by_turn(self):
        random.seed(1)
        for name in CHOSEN:
            frame = FRAMES[name]
            for by in PRIMES:
                told = [(motion_of(frame, 2), random.randint(-30, 30)) for _ in range(40)]
                numbers = {}
                for motion, number in told:
                    numbers[motion] = numbers.get(motion, 0) + number
                total = Sum(frame, by, told)
                self.assertEqual(total.terms, ordered(numbers, by))
                self.assertEqual([(turn, shift) for (shift, turn), _ in total.terms],
                                 sorted((turn, shift) for (shift, turn), _ in total.terms))
                self.assertTrue(all(0 < number < by for _, number in total.terms))

    def test_long_integers(self):
        # By 13 a million is 1, and so is 10 to the 30.
        terms = [(((BIG, -BIG), 1), 10 ** 30), (((-BIG, BIG), 0), -10 ** 30), (((BIG, -BIG), 1), 1)]
        self.assertEqual(Sum(BOTTLE, 13, terms).terms, ((((-BIG, BIG), 0), 12), (((BIG, -BIG), 1), 2)))

    def test_lists_for_tuples(self):
        for terms in ([(((1, 0), 1), 2)], ([((1, 0), 1), 2],), [[[(1, 0), 1], 2]], [[[[1, 0], 1], 2]],
                      ((([1, 0], 1), 2),)):
            total = Sum(BOTTLE, 3, terms)
            self.assertEqual(total.terms, ((((1, 0), 1), 2),))
            self.assertTrue(all_tuples(total.terms))

    def test_attributes(self):
        total = Sum(by=3, terms=[], frame=BOTTLE)
        self.assertTrue(total.frame == BOTTLE)
        self.assertEqual((total.by, total.terms), (3, ()))

    def test_what_is_passed_stays_and_may_be_changed(self):
        shift, terms = [2, 1], []
        motion = [shift, 1]
        terms.extend([[motion, 7], [motion, 8], [[[0, 0], 0], 0]])
        total = Sum(BOTTLE, 11, terms)
        self.assertEqual(terms, [[[[2, 1], 1], 7], [[[2, 1], 1], 8], [[[0, 0], 0], 0]])
        shift[0], motion[1], terms[1] = 9, 0, None
        terms.append(3)
        self.assertEqual(total.terms, ((((2, 1), 1), 4),))

    def test_a_thousand_pairs(self):
        terms = [(((at,), 0), 1) for at in range(1000)]
        self.assertEqual(Sum(LINE, 2, terms).terms, tuple(terms))
        self.assertEqual(len(Sum(LINE, 2, tuple(reversed(terms))).terms), 1000)
        for more in (terms[0], (((0,), 0), 0), (((1000,), 0), 2)):
            self.assertEqual(caught(self, BadSum, Sum, LINE, 2, terms + [more]).part, "terms")


class WrongTest(unittest.TestCase):
    def test_frame(self):
        for frame in NO_FRAMES:
            for by, terms in ((2, []), (4, None)):
                self.assertEqual(caught(self, BadFrame, Sum, frame, by, terms).part, "frame")
                self.assertEqual(caught(self, BadFrame, still_sum, frame, by).part, "frame")

    def test_by(self):
        for by in NO_INTEGERS + (-2, 0, 1, 4, 6, 8, 9, 10, 12, 14, 15, 17, 169, 2 ** 100, "2", (2,), 2.0):
            for terms in ([], None):
                self.assertEqual(caught(self, BadNumber, Sum, BOTTLE, by, terms).part, "by")
            self.assertEqual(caught(self, BadNumber, still_sum, BOTTLE, by).part, "by")

    def test_terms(self):
        right = (((0, 0), 0), 1)
        for terms in NO_ROWS:
            self.assertEqual(caught(self, BadSum, Sum, BOTTLE, 2, terms).part, "terms")
        for term in NO_ROWS + NO_INTEGERS + (
                (), right[:1], right + (1,), (right[0], True), (right[0], None), (right[0], "1"), (right[0], 1.0),
                (((0,), 0), 1), (((0, 0, 0), 0), 1), (((0, 0), 2), 1), (((0, 0), -1), 1), (((0, True), 0), 1),
                (((0, 0), False), 1), (((0, 0.0), 0), 1), (((0, 0), 0, 0), 1), ("00", 1), ((0, 0), 1), (1, ((0, 0), 0)),
                right[0], {((0, 0), 0): 1}, "ab"):
            for terms in ([term], (right, term), [term, right]):
                self.assertEqual(caught(self, BadSum, Sum, BOTTLE, 2, terms).part, "terms")

    def test_other(self):
        total = Sum(BOTTLE, 3, [(((0, 0), 1), 2)])
        for call in (total.plus, total.less, total.times):
            for other in NO_SUMS:
                self.assertEqual(caught(self, BadSum, call, other).part, "other")
            for other in (Sum(named("plane"), 3, []), Sum(named("plane"), 2, []), still_sum(named("half turns"), 3),
                          Sum(LINE, 5, [])):
                self.assertEqual(caught(self, Misfit, call, other).part, "frame")
            for by in (2, 5, 7, 11, 13):
                self.assertEqual(caught(self, Misfit, call, Sum(BOTTLE, by, [])).part, "by")
        self.assertEqual(total.terms, ((((0, 0), 1), 2),))

    def test_number_and_turn(self):
        total = Sum(BOTTLE, 3, [(((0, 0), 1), 2)])
        for number in NO_INTEGERS:
            self.assertEqual(caught(self, BadNumber, total.scaled, number).part, "number")
            self.assertEqual(caught(self, BadNumber, total.at_turn, number).part, "turn")
        for turn in (-1, 2, 3, BIG):
            self.assertEqual(caught(self, BadNumber, total.at_turn, turn).part, "turn")


class AddedTest(unittest.TestCase):
    def check(self, total, numbers):
        self.assertIs(type(total), Sum)
        self.assertEqual(total.terms, ordered(numbers, total.by))
        self.assertTrue(all_tuples(total.terms))

    def test_motion_by_motion(self):
        random.seed(2)
        for name in CHOSEN:
            frame = FRAMES[name]
            for by in PRIMES:
                one, other = some_sum(frame, by, 30, 2), some_sum(anew(frame), by, 30, 2)
                left, right = dict(one.terms), dict(other.terms)
                both = list(left | right)
                self.check(one.plus(other), {at: left.get(at, 0) + right.get(at, 0) for at in both})
                self.check(one.less(other=other), {at: left.get(at, 0) - right.get(at, 0) for at in both})
                self.assertTrue(one.plus(other) == other.plus(one))
                self.assertTrue(one.less(other).plus(other) == one)
                self.assertEqual((one.less(one).terms, one.plus(Sum(frame, by, [])).terms), ((), one.terms))
                for number in NUMBERS:
                    self.check(one.scaled(number), {at: left[at] * number for at in left})
                self.assertTrue(one.scaled(number=-1) == Sum(frame, by, []).less(one))
                self.check(one.flipped(), {frame.undone(at): left[at] for at in left})
                self.assertTrue(one.flipped().flipped() == one)
                for turn in range(frame.many):
                    self.check(one.at_turn(turn), {(at[0], 0): left[at] for at in left if at[1] == turn})
                self.assertEqual((tuple(left.items()), tuple(right.items())), (one.terms, other.terms))

    def test_a_sum_is_made_of_what_stands_ahead(self):
        random.seed(3)
        for name in CHOSEN:
            frame = FRAMES[name]
            total = some_sum(frame, 7, 20)
            made = Sum(frame, 7, [])
            for turn in range(frame.many):
                made = made.plus(total.at_turn(turn=turn).times(Sum(frame, 7, [((frame.still[0], turn), 1)])))
            self.assertTrue(made == total)

    def test_still_sum(self):
        for frame in FRAMES.values():
            for by in PRIMES:
                self.assertEqual(still_sum(by=by, frame=frame).terms, ((frame.still, 1),))
        self.assertEqual(still_sum(BOTTLE, 3).terms, ((((0, 0), 0), 1),))

    def test_equal(self):
        one = Sum(BOTTLE, 3, [(((1, 0), 1), 2), (((0, 0), 0), 1)])
        self.assertTrue(one == Sum(anew(BOTTLE), 3, [[[[0, 0], 0], 4], [[[1, 0], 1], -1]]))
        self.assertFalse(one != Sum(anew(BOTTLE), 3, one.terms))
        told = moved(lawful_frames()["bottle"], [[0, 0], [3, 4]])
        for other in (Sum(BOTTLE, 5, one.terms), Sum(BOTTLE, 3, one.terms[:1]), one.scaled(2), one.at_turn(0),
                      Sum(Frame(*told), 3, one.terms), Sum(named("half turns"), 3, one.terms), one.terms, None, "sum",
                      BOTTLE, 3, Paper("sum"), object()):
            self.assertIs(one == other, False)
            self.assertIs(one != other, True)
        self.assertTrue(Sum(BOTTLE, 3, []) == Sum(BOTTLE, 3, [(((1, 0), 0), 3)]))
        self.assertFalse(Sum(BOTTLE, 3, []) == Sum(BOTTLE, 2, []))


class TimesTest(unittest.TestCase):
    def test_term_by_term(self):
        random.seed(4)
        for name, frame in FRAMES.items():
            for by in (PRIMES if name in CHOSEN else (3,)):
                far = random.choice((1, 4, BIG))
                one, other = some_sum(frame, by, 12, far), some_sum(anew(frame), by, 9, random.choice((1, far)))
                for total in (one.times(other), one.times(other=other)):
                    self.assertIs(type(total), Sum)
                    self.assertEqual(total.terms, times(one, other))
                    self.assertTrue(all_tuples(total.terms))
                self.assertTrue(one.times(still_sum(frame, by)) == one)
                self.assertTrue(still_sum(frame, by).times(one) == one)
                self.assertEqual((one.times(Sum(frame, by, ())).terms, Sum(frame, by, ()).times(one).terms), ((), ()))

    def test_one_stands_ahead(self):
        over, along = Sum(FLAT, 5, [(((0,), 1), 1)]), Sum(FLAT, 5, [(((3,), 0), 2)])
        self.assertEqual(over.times(along).terms, ((((-3,), 1), 2),))
        self.assertEqual(along.times(over).terms, ((((3,), 1), 2),))
        screws = named("two screws")
        one, other = Sum(screws, 3, [(((0, 0, 0), 1), 1)]), Sum(screws, 3, [(((0, 0, 0), 2), 1)])
        self.assertEqual(one.times(other).terms, ((((0, 0, 0), 3), 1),))
        self.assertEqual(other.times(one).terms, ((((-1, 1, -1), 3), 1),))

    def test_three(self):
        random.seed(5)
        for name in CHOSEN:
            frame = FRAMES[name]
            one, two, three = [some_sum(frame, 3, 5) for _ in range(3)]
            self.assertTrue(one.times(two).times(three) == one.times(two.times(three)))
            self.assertTrue(one.times(two.plus(three)) == one.times(two).plus(one.times(three)))
            self.assertTrue(one.less(two).times(three) == one.times(three).less(two.times(three)))
            self.assertTrue(one.times(two).flipped() == two.flipped().times(one.flipped()))

    def test_what_goes_out(self):
        still, over = ((0,), 0), ((0,), 1)
        one, other = Sum(FLAT, 3, [(still, 1), (over, 1)]), Sum(FLAT, 3, [(still, 1), (over, -1)])
        self.assertEqual((one.times(other).terms, other.times(one).terms), ((), ()))


def steps(frame, many, far=1, by=2):
    """A sum of the shifts 0, far, far twice and so on, of the first place, however many."""
    rest = (0,) * (frame.wide - 1)
    total = Sum(frame, by, [])
    for start in range(0, many, 1000):
        total = total.plus(Sum(frame, by, [(((at * far, *rest), 0), 1) for at in range(start, min(start + 1000, many))]))
    return total


class BoundsTest(unittest.TestCase):
    def test_products(self):
        for one, other, terms in ((500, 500, 999), (1000, 250, 1249), (250, 1000, 1249), (2500, 100, 2599)):
            self.assertLessEqual(len(steps(LINE, one).times(steps(LINE, other, by=2)).terms), terms)
            self.assertEqual(steps(LINE, one, by=13).times(steps(LINE, other, by=13)).terms[-1],
                             (((one + other - 2,), 0), 1))
        for one, other in ((501, 500), (500, 501), (1000, 251), (251, 1000), (5001, 50), (49, 5103)):
            error = caught(self, TooMany, steps(LINE, one).times, steps(LINE, other))
            self.assertEqual((error.what, error.most), ("products", 250000))

    def test_terms(self):
        for one, other in ((50, 100), (5, 1000), (1, 5000), (5000, 1), (2500, 2)):
            self.assertEqual(len(steps(BOTTLE, one).times(steps(BOTTLE, other, one)).terms), 5000)
        for one, other in ((3, 1667), (1667, 3), (5001, 1), (1, 5001), (100, 2500), (500, 500)):
            error = caught(self, TooMany, steps(BOTTLE, one).times, steps(BOTTLE, other, one))
            self.assertEqual((error.what, error.most), ("terms", 5000))
        # What goes out is not counted.
        self.assertEqual(steps(LINE, 5001).times(Sum(LINE, 2, [(((0,), 0), 1), (((1,), 0), 1)])).terms,
                         ((((0,), 0), 1), (((5001,), 0), 1)))

    def test_misfit_ahead_of_too_many(self):
        one = steps(LINE, 600)
        self.assertEqual(caught(self, Misfit, one.times, steps(named("plane"), 600)).part, "frame")
        self.assertEqual(caught(self, Misfit, one.times, steps(LINE, 600, by=3)).part, "by")
        self.assertEqual(caught(self, TooMany, one.times, steps(LINE, 600)).what, "products")

    def test_more_than_a_thousand_terms(self):
        random.seed(6)
        total = steps(BOTTLE, 2400, 3, 5)
        self.assertEqual(total.terms, tuple(((((at * 3), 0), 0), 1) for at in range(2400)))
        over = Sum(BOTTLE, 5, [(((0, 7), 1), 3)])
        further = total.plus(total.times(over))
        self.assertEqual(len(further.terms), 4800)
        self.assertEqual(further.scaled(2).terms, tuple((motion, number * 2 % 5) for motion, number in further.terms))
        self.assertTrue(further.at_turn(0) == total)
        self.assertTrue(further.flipped().flipped() == further)
        self.assertEqual(further.less(further).terms, ())
        self.assertEqual(further.times(over).terms, times(further, over))
        self.assertEqual(over.times(further).terms, times(over, further))
        self.assertEqual(caught(self, BadSum, Sum, BOTTLE, 5, further.terms).part, "terms")

    def test_in_a_short_time(self):
        random.seed(7)
        for name in ("space", "two screws", "moved quaternions"):
            frame = FRAMES[name]
            turns = list(range(frame.many))
            one = full_sum(frame, 13, 500, BIG, turns)
            other = full_sum(frame, 13, 500, BIG, turns)
            start = time.perf_counter()
            error = caught(self, TooMany, one.times, other)
            self.assertEqual((error.what, error.most), ("terms", 5000))
            one.flipped().plus(one).less(other).scaled(BIG)
            self.assertLess(time.perf_counter() - start, 5)


if __name__ == "__main__":
    unittest.main()
