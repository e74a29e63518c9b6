import random
import time
import unittest
from math import comb

from screwsums.errors import BadNumber, BadSum, Misfit, TooMany
from screwsums.frames import Frame
from screwsums.moved import moved
from screwsums.named import named
from screwsums.screws import led_screws, two_screws
from screwsums.shaped import contrary, heads_fit, lack, powers, shaped
from screwsums.sums import Sum, still_sum
from tests.lawful import NO_INTEGERS, all_tuples
from tests.plain import BIG, PRIMES, anew, gardam, motion_of, ordered, shifts_times, some_sum
from tests.test_sums import NO_SUMS, caught, steps

SCREWS = two_screws()
POWERS = {(by, many): by ** many for by in PRIMES for many in range(1, 5) if by ** many <= 27}


def letter(x=0, y=0, z=0):
    return {(x, y, z): 1}


ONE, X, Y, Z = letter(), letter(1), letter(0, 1), letter(0, 0, 1)
OVER_X, OVER_Y, OVER_Z = letter(-1), letter(0, -1), letter(0, 0, -1)
# 4 + x + 1/x + y + 1/y
AROUND = {(0, 0, 0): 4, (1, 0, 0): 1, (-1, 0, 0): 1, (0, 1, 0): 1, (0, -1, 0): 1}


def plus(*parts):
    made = {}
    for part in parts:
        for shift, number in part.items():
            made[shift] = made.get(shift, 0) + number
    return made


def often(number, part):
    return {shift: number * own for shift, own in part.items()}


def product(*parts):
    made = ONE
    for part in parts:
        made = shifts_times(made, part)
    return made


def about(part, *places):
    """The shifts turned about at these places."""
    return {tuple(-own if at in places else own for at, own in enumerate(shift)): number for shift, number in part.items()}


def of(heads):
    return {shift: number for (shift, _), number in heads.terms}


def terms(by, p, q, r, s):
    numbers = {(shift, turn): number for turn, part in enumerate((p, q, r, s)) for shift, number in part.items()}
    return ordered(numbers, by)


def told_shape(heads):
    h = of(heads)
    p = product(plus(ONE, X), plus(ONE, Y), plus(ONE, Z), h, OVER_Z)
    q = product(plus(product(plus(ONE, X), plus(ONE, product(OVER_X, OVER_Y))),
                     product(plus(ONE, OVER_Y), plus(ONE, Z))), h)
    r = product(plus(product(Z, plus(ONE, OVER_Y), plus(ONE, product(X, Y))), product(plus(ONE, X), plus(ONE, Z))), h)
    s = plus(often(-1, ONE), product(AROUND, h, OVER_Z))
    return terms(heads.by, p, q, r, s)


def told_lack(heads):
    h, turned = of(heads), about(of(heads), 2)
    two = plus(often(2, ONE), often(-1, Z), often(-1, OVER_Z))
    return plus(product(h, OVER_Z), product(Z, turned), often(-1, product(two, h, turned)))


def told_contrary(total):
    p, q, r, s = [{shift: number for (shift, turn), number in total.terms if turn == at} for at in range(4)]
    return terms(total.by, product(about(p, 1, 2), OVER_X), often(-1, product(OVER_X, q)), often(-1, product(OVER_Y, r)),
                 product(about(s, 1, 2), OVER_Z))


def heads_of(by, places):
    return Sum(SCREWS, by, [(((0, 0, place), 0), number) for place, number in places])


def some_heads(by, many, far=4):
    return heads_of(by, [(random.randint(-far, far), random.randint(1, by - 1)) for _ in range(many)])


def no_heads():
    """Sums that are no heads."""
    z = ((0, 0, 1), 0)
    for motion in (((1, 0, 1), 0), ((0, -1, 1), 0), ((0, 0, 0), 1), ((0, 0, 0), 2), ((0, 0, 5), 3), ((BIG, 0, 0), 0)):
        yield Sum(SCREWS, 3, [(motion, 1)])
        yield Sum(SCREWS, 3, [(z, 1), (motion, 2)])
        yield Sum(SCREWS, 2, [(((0, 0, at), 0), 1) for at in range(41)] + [(motion, 1)])
    for frame in (named("space"), named("third screw"), named("fourth screw"), named("plane"),
                  moved(SCREWS, [(0, 0, 0), (0, 0, 1), (0, 0, 0), (0, 0, 0)])):
        yield Sum(frame, 3, [])
        if frame.wide == 3:
            yield Sum(frame, 2, [(z, 1)])


class ShapedTest(unittest.TestCase):
    def check(self, heads):
        shape = shaped(heads)
        self.assertIs(type(shape), Sum)
        self.assertTrue(shape.frame == SCREWS)
        self.assertEqual((shape.by, shape.terms), (heads.by, told_shape(heads)))
        self.assertTrue(all_tuples(shape.terms))
        self.assertTrue(shaped(heads=Sum(anew(SCREWS), heads.by, [list(term) for term in heads.terms])) == shape)
        return shape

    def test_heads_of_none_to_three_terms(self):
        random.seed(1)
        for by in PRIMES:
            for many in range(4):
                for _ in range(6):
                    self.check(some_heads(by, many, random.choice((1, 4, BIG))))

    def test_least(self):
        self.assertTrue(self.check(heads_of(2, [(0, 1)])) == gardam(named("two screws")))
        self.assertEqual(len(self.check(heads_of(2, [(0, 1)])).terms), 21)
        for by in PRIMES:
            self.assertEqual(self.check(heads_of(by, [])).terms, ((((0, 0, 0), 3), by - 1),))

    def test_the_fact(self):
        # The shape times the contrary is 1 less the lack at two places.
        random.seed(2)
        fit = {True: 0, False: 0}
        for by in PRIMES:
            for many in range(4):
                heads = some_heads(by, many, 2)
                shape, missing = self.check(heads), told_lack(heads)
                told = terms(by, plus(ONE, often(-1, product(AROUND, missing))), {}, {},
                             often(-1, product(plus(ONE, X), plus(ONE, Y), plus(ONE, OVER_Z), missing)))
                self.assertEqual(shape.times(contrary(shape)).terms, told)
                self.assertIs(heads_fit(heads), told == ((SCREWS.still, 1),))
                fit[heads_fit(heads)] += 1
        self.assertGreater(min(fit.values()), 5)

    def test_forty_terms(self):
        random.seed(3)
        for by in (2, 13):
            for far in (1, BIG // 100):
                heads = heads_of(by, [(at * far, 1) for at in range(40)])
                start = time.perf_counter()
                self.check(heads)
                lack(heads)
                self.assertLess(time.perf_counter() - start, 8)
            error = caught(self, TooMany, shaped, heads_of(by, [(at, 1) for at in range(41)]))
            self.assertEqual((error.what, error.most), ("terms", 40))
            error = caught(self, TooMany, shaped, heads_of(by, [(-at, 1) for at in range(500)]))
            self.assertEqual((error.what, error.most), ("terms", 40))


class LackTest(unittest.TestCase):
    def check(self, heads):
        found = lack(heads)
        self.assertIs(type(found), Sum)
        self.assertTrue(found.frame == SCREWS)
        self.assertEqual((found.by, found.terms), (heads.by, terms(heads.by, told_lack(heads), {}, {}, {})))
        self.assertTrue(lack(heads=heads) == found)
        self.assertIs(heads_fit(heads=heads), found.terms == ())
        return heads_fit(heads)

    def test_drawn_heads(self):
        random.seed(4)
        for by in PRIMES:
            for many in (0, 1, 2, 3, 9):
                for _ in range(6):
                    self.check(some_heads(by, many, random.choice((1, 3, BIG))))

    def test_which_single_heads_fit(self):
        # z i times a number n: the ends are z (i - 1) and z (1 - i), and the rest is n n (2 - z - 1/z).
        for by in PRIMES:
            for place in range(-3, 4):
                for number in range(1, by):
                    self.assertIs(self.check(heads_of(by, [(place, number)])), by == 2 and place in (0, 2))

    def test_all_heads_of_small_shifts(self):
        for by, places in ((2, range(-3, 4)), (3, range(-2, 3))):
            fit = []
            for at in range(by ** len(places)):
                numbers = [at // by ** step % by for step in range(len(places))]
                heads = heads_of(by, [(place, number) for place, number in zip(places, numbers)])
                if self.check(heads):
                    fit.append(heads)
                    self.assertTrue(shaped(heads).times(contrary(shaped(heads))) == still_sum(SCREWS, by))
                    self.assertTrue(contrary(shaped(heads)).times(shaped(heads)) == still_sum(SCREWS, by))
            self.assertTrue(any(heads == powers(by, 1) for heads in fit))
            self.assertTrue(any(heads == Sum(SCREWS, by, []) for heads in fit))
            self.assertGreaterEqual(len(fit), 2)

    def test_of_the_document(self):
        self.assertEqual(lack(heads_of(3, [(0, 1)])).terms,
                         ((((0, 0, -1), 0), 2), (((0, 0, 0), 0), 1), (((0, 0, 1), 0), 2)))
        self.assertEqual(lack(heads_of(2, [(0, 1)])).terms, ())

    def test_shifted_and_scaled(self):
        for (by, many), power in POWERS.items():
            heads = powers(by, many)
            for number in range(1, by):
                for step in (-2, -1, 0, 1, 2):
                    moved_on = Sum(SCREWS, by, [(((0, 0, shift[2] + step), 0), own) for (shift, _), own in heads.terms])
                    right = self.check(moved_on.scaled(number))
                    if step == 0:
                        self.assertIs(right, number == 1)
            flipped = Sum(SCREWS, by, [(((0, 0, -shift[2]), 0), own) for (shift, _), own in heads.terms])
            self.check(flipped)


class ContraryTest(unittest.TestCase):
    def check(self, total):
        found = contrary(total)
        self.assertIs(type(found), Sum)
        self.assertTrue(found.frame == SCREWS)
        self.assertEqual((found.by, found.terms), (total.by, told_contrary(total)))
        self.assertTrue(all_tuples(found.terms))
        return found

    def test_any_sums(self):
        random.seed(5)
        for by in PRIMES:
            for many in (0, 1, 5, 40):
                total = some_sum(SCREWS, by, many, random.choice((1, 3, BIG)))
                self.assertTrue(contrary(total=Sum(anew(SCREWS), by, total.terms)) == self.check(total))

    def test_single_motions(self):
        for turn, shift, number in ((0, (6, -8, -9), 1), (1, (6, 8, 9), 2), (2, (7, 7, 9), 2), (3, (7, -8, -10), 1)):
            self.assertEqual(self.check(Sum(SCREWS, 3, [(((7, 8, 9), turn), 1)])).terms, (((shift, turn), number),))

    def test_undoes_shapes_of_heads_that_fit(self):
        for (by, many), power in POWERS.items():
            if power > 13:
                continue
            shape = shaped(powers(by, many))
            other = self.check(shape)
            self.assertTrue(shape.times(other) == still_sum(SCREWS, by))
            self.assertTrue(other.times(shape) == still_sum(SCREWS, by))
            lead = led_screws((1, 0, 0), (0, 0, 2))
            self.assertTrue(lead.image_sum(shape).times(lead.image_sum(other)) == still_sum(SCREWS, by))

    def test_many_terms(self):
        self.check(steps(SCREWS, 3000, 2, 5))

    def test_wrong(self):
        for total in NO_SUMS:
            self.assertEqual(caught(self, BadSum, contrary, total).part, "total")
        for frame in (named("space"), named("bottle"), named("fourth screw"), Frame(0, [[0]], [[]], [[[]]]),
                      moved(SCREWS, [(0, 0, 0), (0, 0, 1), (0, 0, 0), (0, 0, 0)])):
            self.assertEqual(caught(self, Misfit, contrary, Sum(frame, 2, [])).part, "frame")


class PowersTest(unittest.TestCase):
    def test_each_power(self):
        for (by, many), power in POWERS.items():
            heads = powers(by, many)
            exponent = power - 2
            numbers = {((0, 0, -at), 0): comb(exponent, at) * (-1) ** (exponent - at) for at in range(exponent + 1)}
            self.assertEqual((heads.by, heads.terms), (by, ordered(numbers, by)))
            self.assertTrue(heads.frame == SCREWS)
            self.assertIs(heads_fit(heads), True)
            self.assertTrue(powers(many=many, by=by) == heads)
        self.assertEqual(sorted(POWERS.values()), [2, 3, 4, 5, 7, 8, 9, 11, 13, 16, 25, 27])

    def test_beyond(self):
        for by, many in ((2, 5), (3, 4), (5, 3), (7, 2), (11, 2), (13, 2), (2, 6), (13, 40), (2, BIG), (7, 10 ** 900)):
            error = caught(self, TooMany, powers, by, many)
            self.assertEqual((error.what, error.most), ("power", 27))

    def test_wrong(self):
        for by in NO_INTEGERS + (-2, 0, 1, 4, 6, 9, 15, 17, 25, 27, BIG):
            for many in (1, 0, None):
                self.assertEqual(caught(self, BadNumber, powers, by, many).part, "by")
        for many in NO_INTEGERS + (0, -1, -BIG):
            for by in PRIMES:
                self.assertEqual(caught(self, BadNumber, powers, by, many).part, "many")


class NoHeadsTest(unittest.TestCase):
    def test_wrong(self):
        for call in (shaped, lack, heads_fit):
            for heads in NO_SUMS:
                self.assertEqual(caught(self, BadSum, call, heads).part, "heads")
            for heads in no_heads():
                self.assertEqual(caught(self, BadSum, call, heads).part, "heads")
            error = caught(self, TooMany, call, heads_of(3, [(at, 2) for at in range(41)]))
            self.assertEqual((error.what, error.most), ("terms", 40))
            call(heads_of(3, [(at, 2) for at in range(40)]))

    def test_a_motion_that_is_drawn(self):
        random.seed(6)
        for _ in range(60):
            motion = motion_of(SCREWS, 1)
            total = Sum(SCREWS, 5, [(motion, 3)])
            if motion[1] == 0 and motion[0][:2] == (0, 0):
                self.assertEqual(shaped(total).terms, told_shape(total))
            else:
                self.assertEqual(caught(self, BadSum, shaped, total).part, "heads")


if __name__ == "__main__":
    unittest.main()
