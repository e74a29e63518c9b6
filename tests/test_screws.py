import itertools
import random
import time
import unittest

from screwsums.errors import BadNumber
from screwsums.frames import Frame
from screwsums.leads import Lead, merged
from screwsums.named import named
from screwsums.screws import led_screws, two_screws
from tests.lawful import NO_ROWS
from tests.lawful import two_screws as told_screws
from tests.leading import is_told_lawful, is_told_unlike, screws_led
from tests.plain import BIG
from tests.test_sums import caught

SCREWS = Frame(*told_screws())
X, Y, Z = [(shift, 0) for shift in ((1, 0, 0), (0, 1, 0), (0, 0, 1))]
A, B, AB = [((0, 0, 0), turn) for turn in (1, 2, 3)]
NO_SHIFTS = NO_ROWS + ((), (1,), (1, 2), (1, 2, 3, 4), (1, 2, True), (False, 2, 3), (1, 2, 3.0), (1, 2, "3"), "123",
                       (1, 2, None), ((1, 2, 3),), ((1,), 2, 3), 3, {1: 1, 2: 2, 3: 3}, [[1, 2, 3]])


def drawn(far):
    return tuple(random.randint(-far, far) for _ in range(3))


class TwoScrewsTest(unittest.TestCase):
    def test_against_the_table(self):
        screws = two_screws()
        self.assertIs(type(screws), Frame)
        self.assertTrue(screws == SCREWS)
        self.assertTrue(screws == named("two screws"))
        self.assertTrue(two_screws() == screws)

    def test_what_is_told_of_them(self):
        screws = two_screws()
        for motion, shift in ((A, X), (B, Y), (AB, Z)):
            self.assertEqual(screws.times(motion, motion), shift)
        self.assertEqual(screws.times(A, B), AB)
        for turn, about in ((A, (Y, Z)), (B, (X, Z)), (AB, (X, Y))):
            for shift in about:
                self.assertEqual(screws.times(turn, shift), screws.times(screws.undone(shift), turn))


class LedScrewsTest(unittest.TestCase):
    def check(self, first, second):
        lead = led_screws(first, second)
        self.assertIs(type(lead), Lead)
        self.assertTrue(lead.frame == SCREWS and lead.other == SCREWS)
        self.assertTrue(lead == Lead(*screws_led(first, second)))
        self.assertTrue(is_told_lawful((SCREWS, SCREWS, lead.square, lead.motions)))
        to_a, to_b = SCREWS.times((first, 0), A), SCREWS.times((second, 0), B)
        self.assertEqual((lead.image(A), lead.image(B)), (to_a, to_b))
        self.assertEqual(lead.image(SCREWS.times(A, B)), SCREWS.times(to_a, to_b))
        (i, _, k), (_, m, n) = first, second
        self.assertEqual(lead.square, ((2 * i + 1, 0, 0), (0, 2 * m + 1, 0), (0, 0, 2 * (k - n) + 1)))
        self.assertTrue(led_screws(second=list(second), first=list(first)) == lead)
        return lead

    def test_drawn_shifts(self):
        random.seed(1)
        for far in (0, 1, 2, 9, BIG):
            for _ in range(25):
                lead = self.check(drawn(far), drawn(far))
                paper = merged(lead)
                self.assertIs(is_told_unlike(lead, *paper.parts), True)

    def test_small_shifts(self):
        for i, k, m, n in itertools.product((-2, -1, 0, 1), repeat=4):
            self.check((i, 5, k), (-3, m, n))

    def test_words_of_both(self):
        random.seed(2)
        for _ in range(40):
            first, second = drawn(3), drawn(3)
            lead = led_screws(first, second)
            told = {1: (first, 1), 2: (second, 2), -1: SCREWS.undone((first, 1)), -2: SCREWS.undone((second, 2))}
            own = {1: A, 2: B, -1: SCREWS.undone(A), -2: SCREWS.undone(B)}
            word = [random.choice((1, 2, -1, -2)) for _ in range(random.randint(0, 30))]
            self.assertEqual(lead.image(SCREWS.product([own[at] for at in word])), SCREWS.product([told[at] for at in word]))

    def test_as_it_is_and_by_a_shift(self):
        still = self.check((0, 0, 0), (0, 0, 0))
        self.assertEqual(still.motions, (SCREWS.still, A, B, AB))
        self.assertEqual(still.image(((5, -6, 7), 2)), ((5, -6, 7), 2))
        # Behind a shift and ahead of it undone, a and b stand ahead of other shifts.
        lead = self.check((0, 2, 6), (8, 0, 6))
        self.assertEqual(lead.square, ((1, 0, 0), (0, 1, 0), (0, 0, 1)))
        for motion in (X, Y, Z, A, B, AB):
            self.assertEqual(lead.image(motion), SCREWS.product([((4, 1, 3), 0), motion, ((-4, -1, -3), 0)]))

    def test_one_behind_the_other(self):
        random.seed(3)
        for far in (1, 4, BIG):
            for _ in range(10):
                one, other = self.check(drawn(far), drawn(far)), self.check(drawn(far), drawn(far))
                both = other.after(one)
                first, second = both.image(A), both.image(B)
                self.assertEqual((first[1], second[1]), (1, 2))
                self.assertTrue(both == self.check(first[0], second[0]))

    def test_in_a_short_time(self):
        start = time.perf_counter()
        for _ in range(5):
            led_screws((BIG, -BIG, BIG), (BIG, BIG, -BIG))
        self.assertLess(time.perf_counter() - start, 3)

    def test_wrong(self):
        for shift in NO_SHIFTS:
            for second in ((0, 0, 0), None, shift):
                self.assertEqual(caught(self, BadNumber, led_screws, shift, second).part, "first")
            self.assertEqual(caught(self, BadNumber, led_screws, (0, 0, 0), shift).part, "second")


if __name__ == "__main__":
    unittest.main()
