import itertools
import random
import time
import unittest

from screwsums.errors import BadFrame, BadLot, BadNumber
from screwsums.moved import moved, moved_motion
from screwsums.named import named
from screwsums.papers import Denial, Paper
from screwsums.signwords import Free, Words, shows_sign_words, sign_words
from tests.bending import bent_parts
from tests.downward import DOWN
from tests.lawful import NO_FRAMES, NO_INTEGERS, NO_ROWS, all_tuples
from tests.plain import BIG, anew, motion_of
from tests.test_heights import NO_MOTIONS

BOTTLE, FLAT, SCREWS = named("bottle"), named("turned line"), named("two screws")
GLIDE, OVER = ((0, 0), 1), ((0,), 1)
FIRST, SECOND = ((0, 0, 0), 1), ((0, 0, 0), 2)
POINTS = DOWN["cyclic 6 0 0"]
NO_PAPERS = (None, True, False, 0, 1, "words", "free", (), [], {}, object(), Words, Free, ((0, 0), (0, 0)), (-1,),
             Paper("words", ((0, 0), (0, 0))), Denial("free", (-1,)))


class FurtherWords(Words):
    """Not made by calling Words."""


class FurtherFree(Free):
    """Not made by calling Free."""


def brings_to_still(frame, motions, signs, word):
    done = frame.still
    for at in word:
        done = frame.times(done, motions[at] if signs[at] == 1 else frame.undone(motions[at]))
    return done == frame.still


def told_word(frame, motions, signs, most):
    """The first word, by trying one after another."""
    for many in range(1, most + 1):
        for word in itertools.product(range(len(motions)), repeat=many):
            if brings_to_still(frame, motions, signs, word):
                return word
    return None


def told_paper(frame, motions, most):
    rows = []
    for signs in itertools.product((-1, 1), repeat=len(motions)):
        word = told_word(frame, motions, signs, most)
        if word is None:
            return Free(signs)
        rows.append(word)
    return Words(rows)


def is_told(frame, motions, most, paper):
    """Whether a paper is right, by the document's words."""
    choices = list(itertools.product((-1, 1), repeat=len(motions)))
    if isinstance(paper, Free):
        if not isinstance(paper.signs, tuple) or any(type(sign) is not int for sign in paper.signs):
            return False
        return paper.signs in choices and told_word(frame, motions, paper.signs, most) is None
    if not isinstance(paper.rows, tuple) or len(paper.rows) != len(choices):
        return False
    for signs, word in zip(choices, paper.rows):
        if not isinstance(word, tuple) or not 1 <= len(word) <= 60:
            return False
        if any(type(at) is not int or not 0 <= at < len(motions) for at in word):
            return False
        if not brings_to_still(frame, motions, signs, word):
            return False
    return True


def lot_of(frame, many, far=1):
    """A lot of motions other than still, as many as told if there are so many."""
    found = dict.fromkeys(motion_of(frame, far) for _ in range(60))
    return [motion for motion in found if motion != frame.still][:many]


class SignWordsTest(unittest.TestCase):
    def check(self, frame, motions, most, told=None):
        paper = sign_words(frame, motions, most)
        self.assertIn(type(paper), (Words, Free))
        self.assertTrue(all_tuples(paper.parts))
        self.assertTrue(paper == (told_paper(frame, motions, most) if told is None else told))
        self.assertTrue(sign_words(most=most, motions=tuple(motions), frame=anew(frame)) == paper)
        self.assertIs(shows_sign_words(frame, motions, most, paper), True)
        return paper

    def test_all_frames(self):
        random.seed(1)
        seen = {Words: 0, Free: 0}
        for name, frame in DOWN.items():
            for many in (1, 2):
                motions = lot_of(frame, many)
                if motions:
                    seen[type(self.check(frame, motions, random.randint(1, 5)))] += 1
        self.assertGreater(min(seen.values()), 30)

    def test_each_most(self):
        random.seed(2)
        for name in ("turned line", "half turns", "triangle", "square", "quaternions", "cyclic 6 0 0", "two screws"):
            for most in range(1, 7 if name == "quaternions" else 9):
                self.check(DOWN[name], lot_of(DOWN[name], 2), most)
                self.check(DOWN[name], lot_of(DOWN[name], 1), most)

    def test_a_motion_that_comes_back(self):
        self.check(FLAT, [OVER], 2, Words([(0, 0), (0, 0)]))
        self.check(FLAT, [OVER], 1, Free((-1,)))
        self.check(FLAT, [((5,), 1), ((1,), 0)], 8, Words([(0, 0)] * 4))
        # The shift (1), or undone, behind a half turn stands as it is undone, or as it is.
        self.check(FLAT, [((1,), 0), OVER], 8, Words([(1, 1)] * 4))
        for many in range(2, 9):
            frame = DOWN[f"cyclic {many} 1 0"]
            self.check(frame, [((0,), 1)], 8, Words([(0,) * many] * 2))
            self.check(frame, [((0,), 1)], many - 1, Free((-1,)))
            self.check(frame, [((1,), 1)], 8, Free((-1,)))

    def test_the_shorter_ones_first(self):
        # Turn 2 of six comes back after 3, turn 3 after 2; of one length tuples are compared.
        self.check(POINTS, [((), 2), ((), 3)], 8, Words([(1, 1)] * 4))
        self.check(POINTS, [((), 3), ((), 2)], 8, Words([(0, 0)] * 4))
        self.check(POINTS, [((), 2), ((), 4)], 8, Words([(0, 1), (0, 0, 0), (0, 0, 0), (0, 1)]))
        self.check(POINTS, [((), 4), ((), 2)], 2, Free((-1, 1)))
        self.check(POINTS, [((), 1), ((), 2)], 8, Words([(1, 1, 1), (0, 0, 1), (0, 0, 1), (1, 1, 1)]))

    def test_two_screws(self):
        word = (0, 0, 1, 0, 1, 1, 0, 1)
        self.check(SCREWS, [FIRST, SECOND], 8, Words([word] * 4))
        for most in range(1, 8):
            self.check(SCREWS, [FIRST, SECOND], most, Free((-1, -1)))
        random.seed(3)
        for _ in range(4):
            starts = [(0, 0, 0)] + [tuple(random.randint(-BIG, BIG) for _ in range(3)) for _ in range(3)]
            frame = moved(SCREWS, starts)
            motions = [moved_motion(SCREWS, starts, motion) for motion in (FIRST, SECOND)]
            self.check(frame, motions, 8, Words([word] * 4))
            self.check(frame, motions, 7, Free((-1, -1)))

    def test_a_choice_in_the_middle_has_none(self):
        # Along and along again: only with unlike signs they come to still.
        line = named("line")
        self.check(line, [((1,), 0), ((2,), 0)], 8, Free((-1, -1)))
        self.check(line, [((1,), 0), ((-2,), 0)], 3, Free((-1, 1)))
        self.check(line, [((1,), 0), ((-9,), 0)], 8, Free((-1, -1)))
        self.check(BOTTLE, [GLIDE], 8, Free((-1,)))

    def test_lists_for_tuples(self):
        motions = [[[0, 0, 0], 1], ([0, 0, 0], 2)]
        self.assertTrue(sign_words(SCREWS, motions, 8) == sign_words(SCREWS, ((FIRST), (SECOND)), 8))
        self.assertEqual(motions, [[[0, 0, 0], 1], ([0, 0, 0], 2)])

    def test_in_a_short_time(self):
        random.seed(4)
        for name in ("quaternions", "moved quaternions", "mirrors", "two screws told otherwise 2", "cyclic 8 3 5"):
            frame = DOWN[name]
            motions = [motion_of(frame, BIG), ((BIG, BIG - 1, 3), 0)]
            start = time.perf_counter()
            paper = sign_words(frame, motions, 8)
            for signs in itertools.product((-1, 1), repeat=2):
                shows_sign_words(frame, motions, 8, Free(signs))
            self.assertIs(shows_sign_words(frame, motions, 8, paper), True)
            self.assertLess(time.perf_counter() - start, 5)


class ShowsTest(unittest.TestCase):
    def check(self, frame, motions, most, value, right):
        self.assertIs(shows_sign_words(frame, motions, most, value), right)

    def test_long_words(self):
        # Turn 2 of six comes back after 3, turn 3 after 2, whatever their signs.
        motions = [((), 2), ((), 3)]
        for many, right in ((5, True), (59, True), (60, True), (61, False), (62, False), (120, False)):
            word = (0,) * 3 + (1,) * (many - 3) if many % 2 else (1,) * (many - 6) + (0,) * 6
            self.assertTrue(all(brings_to_still(POINTS, motions, signs, word) for signs in ((1, 1), (-1, 1))))
            self.check(POINTS, motions, 1, Words([word] * 4), right)
            self.check(POINTS, motions, 1, Words([[0, 0, 0], word, [1, 1], [1, 1]]), right)
        self.check(POINTS, motions, 8, Words([(1, 1), (), (1, 1), (1, 1)]), False)
        for many, right in ((2, True), (58, True), (60, True), (62, False), (0, False), (1, False), (59, False)):
            self.check(FLAT, [OVER], 1, Words([(0, 0), (0,) * many]), right)

    def test_any_word(self):
        for word, right in (((0, 1, 0, 1, 1, 0, 1, 0), True), ((0, 0, 1, 0, 1, 1, 0, 1), True),
                            ((0, 0, 1, 0, 1, 1, 0, 1) * 7, True), ((0, 0, 1, 0, 1, 1, 0, 1) * 8, False),
                            ((0, 0, 1, 0, 1, 1, 0), False), ((0, 0, 1, 1, 0, 1, 0, 1), False),
                            ((1, 1, 0, 1, 0, 0, 1, 0), True), ((1, 0, 1, 0, 0, 1, 0, 1), True), ((0, 1), False)):
            self.check(SCREWS, [FIRST, SECOND], 1, Words([word] * 4), right)
            self.check(SCREWS, [[[0, 0, 0], 1], SECOND], 8, Words([list(word)] + [(0, 0, 1, 0, 1, 1, 0, 1)] * 3), right)

    def test_rows_left_out_and_put_in(self):
        for rows, right in (([(0, 0)] * 2, True), ([(0, 0)], False), ([(0, 0)] * 3, False), ([(0, 0)] * 4, False),
                            ([], False), (None, False), ((0, 0), False), ("00", False), ([(0, 0), None], False),
                            ([(0, 0), 0], False), ([(0, 0), "00"], False), ({0: (0, 0), 1: (0, 0)}, False),
                            ([(0, 0), (0, False)], False), ([(0, 0), (0, -1)], False), ([(0, 0), (0, 1)], False),
                            ([(1, 1), (0, 0)], False), ([(0, 0), (0, 0.0)], False), ([(0, 0), ((0,), 0)], False)):
            self.check(FLAT, [OVER], 2, Words(rows), right)
        self.check(FLAT, [OVER, ((1,), 0)], 2, Words([(0, 0)] * 4), True)
        self.check(FLAT, [OVER, ((1,), 0)], 2, Words([(0, 0)] * 2), False)
        self.check(FLAT, [OVER, ((1,), 1)], 2, Words([(0, 0), (1, 1), (0, 0), (True, True)]), False)

    def test_choices(self):
        for signs, right in (((-1,), True), ([1], True), ((0,), False), ((2,), False), ((-2,), False), ((), False),
                             ((True,), False), ((1, 1), False), ((-1, 1), False), (1, False), (None, False),
                             ("1", False), (((1,),), False), ((1.0,), False), ({0: 1}, False), ((None,), False)):
            self.check(BOTTLE, [GLIDE], 8, Free(signs), right)
            self.check(FLAT, [OVER], 8, Free(signs), False)
            self.check(FLAT, [OVER], 1, Free(signs), right)
        line, motions = named("line"), [((1,), 0), ((2,), 0)]
        for most in range(1, 9):
            for signs in itertools.product((-1, 0, 1, True), repeat=2):
                right = all(type(sign) is int and sign for sign in signs) and (signs[0] == signs[1] or most < 3)
                self.check(line, motions, most, Free(signs), right)
            self.check(line, motions, most, Free((1,)), False)
            self.check(line, motions, most, Free((1, 1, 1)), False)

    def test_papers_bent_in_one_place(self):
        seen = {True: 0, False: 0}
        for frame, motions, most in ((FLAT, [OVER], 3), (BOTTLE, [GLIDE], 4), (POINTS, [((), 1), ((), 2)], 4),
                                     (SCREWS, [FIRST, SECOND], 2), (named("line"), [((1,), 0), ((2,), 0)], 4),
                                     (POINTS, [((), 2), ((), 3)], 2), (DOWN["triangle"], [((1, 0), 1)], 3)):
            paper = sign_words(frame, motions, most)
            for parts, odd in bent_parts(paper):
                right = is_told(frame, motions, most, type(paper)(*parts))
                self.assertFalse(right and odd)
                self.check(frame, motions, most, type(paper)(*parts), right)
                seen[right] += 1
        self.assertGreater(min(seen.values()), 20)

    def test_other_papers(self):
        for value in NO_PAPERS + (FurtherWords([(0, 0)] * 2), Free([(0, 0)] * 2)):
            self.check(FLAT, [OVER], 2, value, False)
        for value in NO_PAPERS + (FurtherFree((-1,)), Words((-1,))):
            self.check(BOTTLE, [GLIDE], 2, value, False)


class WrongTest(unittest.TestCase):
    def check(self, kind, part, *parts):
        for call, more in ((sign_words, ()), (shows_sign_words, (None,)), (shows_sign_words, (Free((1,)),))):
            with self.assertRaises(kind) as caught:
                call(*parts, *more)
            self.assertIs(type(caught.exception), kind)
            self.assertEqual(caught.exception.part, part)

    def test_frame(self):
        for frame in NO_FRAMES:
            for motions, most in (([GLIDE], 3), (None, None)):
                self.check(BadFrame, "frame", frame, motions, most)

    def test_motions(self):
        for most in (3, None):
            for motions in NO_ROWS + ([], (), [GLIDE, ((1, 0), 0), ((2, 0), 0)], [GLIDE, GLIDE], [[[0, 0], 1], GLIDE],
                                      [BOTTLE.still], [[[0, 0], 0]], [GLIDE, BOTTLE.still], [[[0, 0], 0], GLIDE],
                                      GLIDE, "", "ab", {GLIDE: 1}):
                self.check(BadLot, "motions", BOTTLE, motions, most)
            for motion in NO_MOTIONS:
                self.check(BadLot, "motions", BOTTLE, [motion], most)
                self.check(BadLot, "motions", BOTTLE, (GLIDE, motion), most)

    def test_most(self):
        for most in NO_INTEGERS + (0, -1, 9, 10, 60, BIG, -BIG):
            self.check(BadNumber, "most", BOTTLE, [GLIDE], most)
        for most in range(1, 9):
            self.assertTrue(sign_words(BOTTLE, [GLIDE], most) == Free((-1,)))


class PapersTest(unittest.TestCase):
    def test_words_and_free(self):
        for made, name, word, truth in ((Words, "rows", "words", True), (Free, "signs", "free", False)):
            for paper in (made([[1, [2]]]), made(**{name: ((1, (2,)),)})):
                self.assertEqual((paper.word, paper.parts), (word, (((1, (2,)),),)))
                self.assertEqual(getattr(paper, name), ((1, (2,)),))
                self.assertIs(bool(paper), truth)
                self.assertIsInstance(paper, Paper)
                self.assertIs(isinstance(paper, Denial), not truth)
                self.assertTrue(paper == made([(1, [2])]))
                self.assertFalse(paper == made([(1, [3])]))
                self.assertFalse(paper == (Paper if truth else Denial)(word, [(1, [2])]))
            self.assertEqual((made("a").parts, made(None).parts), (("a",), (None,)))
        self.assertFalse(Words(()) == Free(()))


if __name__ == "__main__":
    unittest.main()
