import itertools
import random
import unittest

from screwsums.check_returning import shows_back, shows_whole
from screwsums.errors import BadFrame, BadNumber
from screwsums.faults import Fault
from screwsums.frames import Frame
from screwsums.named import named
from screwsums.papers import Denial, Paper
from screwsums.returning import Away, Back, comes_back, returns
from screwsums.wholes import Barred, Whole, whole
from tests.bending import bent_parts
from tests.lawful import NAMES, NO_FRAMES, NO_INTEGERS, NO_ROWS, cyclic, lawful_frames

BIG = 10 ** 30 - 1
FRAMES = {name: Frame(*told) for name, told in lawful_frames().items()}
FRAMES.update({name: named(name) for name in NAMES})
NO_PAPERS = (None, True, False, 0, 1, "back", "away", "whole", (), [], {}, object(), Paper, Whole, Back,
             Paper("whole", (1,)), Denial("barred", (1,), 2), Paper("back", ((1,), 1), 2), Denial("away", ()),
             Fault("gap", (1,)), ((1,), 2), (((1,), 1), 2))


class Further(Whole):
    """Not made by calling Whole."""


def are_ints(value, many):
    return isinstance(value, (list, tuple)) and len(value) == many and all(type(part) is int for part in value)


def adds_up(one, other):
    return sum(left * right for left, right in zip(one, other, strict=True))


def told_whole(rows, goals, numbers):
    return are_ints(numbers, len(rows[0])) and [adds_up(row, numbers) for row in rows] == list(goals)


def told_barred(rows, goals, row, modulus):
    return (are_ints(row, len(rows)) and type(modulus) is int and modulus >= 2
            and all(adds_up(row, column) % modulus == 0 for column in zip(*rows))
            and adds_up(row, goals) % modulus != 0)


ASKED = [([[4, 6]], [3]), ([[4, 6]], [4]), ([[2, 0], [1, 1]], [4, 7]), ([[2, 0], [0, 2], [1, 1]], [2, 4, 4]),
         ([[], []], [0, 0]), ([[], []], [0, 3]), ([[0, 0], [0, 0]], [0, 0]), ([[0, 0], [0, 0]], [0, -6]),
         ([[1, -1]] * 3, [5, 5, 5]), ([[1, -1]] * 3, [5, 5, 6]), ([[BIG, 1 - BIG]], [1]), ([[BIG, -BIG]], [2]),
         ([[1] * 12] * 48, [7] * 48), ([[6, 10, 15]], [1]), ([[0]], [0])]


class ShowsWholeTest(unittest.TestCase):
    def test_what_whole_returns(self):
        random.seed(1)
        asked = list(ASKED)
        for _ in range(300):
            wide, many = random.randint(0, 5), random.randint(1, 5)
            asked.append(([[random.randint(-6, 6) for _ in range(wide)] for _ in range(many)],
                          [random.randint(-6, 6) for _ in range(many)]))
        for rows, goals in asked:
            paper = whole(rows, goals)
            self.assertIs(shows_whole(rows, goals, paper), True)
            self.assertIs(shows_whole(tuple(map(tuple, rows)), tuple(goals), paper), True)

    def test_papers_bent_in_one_place(self):
        seen = {True: 0, False: 0}
        for rows, goals in ASKED:
            paper = whole(rows, goals)
            for parts, odd in bent_parts(paper):
                told = told_whole if paper else told_barred
                right = told(rows, goals, *parts)
                self.assertFalse(right and odd)
                self.assertIs(shows_whole(rows, goals, type(paper)(*parts)), right)
                seen[right] += 1
        self.assertGreater(min(seen.values()), 20)

    def test_any_right_one(self):
        rows, goals = [[4, 6]], [4]
        for numbers in itertools.product(range(-9, 10), repeat=2):
            self.assertIs(shows_whole(rows, goals, Whole(list(numbers))), 4 * numbers[0] + 6 * numbers[1] == 4)
        rows, goals = [[4, 6], [0, 9]], [2, 3]
        for row in itertools.product(range(-5, 6), repeat=2):
            for modulus in range(-4, 13):
                right = (modulus >= 2 and 4 * row[0] % modulus == 0 and (6 * row[0] + 9 * row[1]) % modulus == 0
                         and (2 * row[0] + 3 * row[1]) % modulus != 0)
                self.assertIs(shows_whole(rows, goals, Barred(row, modulus)), right)

    def test_modulus(self):
        for modulus in (1, 0, -1, -2, True, False, None, 2.0, "2", (2,)):
            self.assertIs(shows_whole([[4, 6]], [3], Barred((1,), modulus)), False)
        for row in ((1,), (-1,), [3], (5,)):
            self.assertIs(shows_whole([[4, 6]], [3], Barred(row, 2)), True)
        for row in ((True,), ("1",), (1.0,), 1, "1", (), (1, 0), None, {0: 1}, ((1,),)):
            self.assertIs(shows_whole([[4, 6]], [3], Barred(row, 2)), False)

    def test_a_whole_of_lists(self):
        for numbers, right in (((1, 0), True), ([1, 0], True), ((True, 0), False), ((1, False), False),
                               ((1,), False), ((1, 0, 0), False), ("10", False), (None, False), (1, False),
                               ((1.0, 0), False), (((1,), 0), False), ({1: 1}, False)):
            self.assertIs(shows_whole([[4, 6]], [4], Whole(numbers)), right)

    def test_other_values(self):
        for rows, goals in ASKED:
            for value in NO_PAPERS + (Back((1,), 2), Away(()), whole(rows, goals).parts, Further((1, 0))):
                self.assertIs(shows_whole(rows, goals, value), False)
        self.assertIs(shows_whole([[4, 6]], [4], Further((1, 0))), False)

    def test_by_name(self):
        self.assertIs(shows_whole(value=Whole((1, 0)), goals=[4], rows=[[4, 6]]), True)

    def test_errors_ahead_of_the_value(self):
        for value in (None, Whole((1,)), Barred((1,), 2)):
            for rows in NO_ROWS + ([], [1], [[1], [2, 3]], [[True]], [[0] * 13], [[1]] * 49, ["1"]):
                for goals in ([1], None):
                    with self.assertRaises(BadNumber) as caught:
                        shows_whole(rows, goals, value)
                    self.assertEqual(caught.exception.part, "rows")
            for goals in NO_ROWS + NO_INTEGERS[:6] + ([], [1, 2], [True], ["1"], "1", [[1]], 1):
                with self.assertRaises(BadNumber) as caught:
                    shows_whole([[1]], goals, value)
                self.assertEqual(caught.exception.part, "goals")


def told_back(frame, motion, times):
    if not isinstance(motion, (list, tuple)) or len(motion) != 2 or type(motion[1]) is not int:
        return False
    if not are_ints(motion[0], frame.wide) or not 0 <= motion[1] < frame.many or type(times) is not int:
        return False
    done = [(tuple(motion[0]), motion[1])]
    for _ in range(8):
        done.append(frame.times(done[-1], done[0]))
    return done[0] != frame.still and frame.still in done and done.index(frame.still) + 1 == times


def told_away(frame, rows):
    if not isinstance(rows, (list, tuple)) or len(rows) != frame.many - 1:
        return False
    for turn, pair in enumerate(rows, start=1):
        if not isinstance(pair, (list, tuple)) or len(pair) != 2 or not are_ints(pair[0], frame.wide):
            return False
        powers = [0]
        while frame.turns[powers[-1]][turn] != 0:
            powers.append(frame.turns[powers[-1]][turn])
        added = [[sum(frame.squares[power][row][place] for power in powers) for place in range(frame.wide)]
                 for row in range(frame.wide)]
        shift, _ = frame.product([(frame.still[0], turn)] * len(powers))
        if type(pair[1]) is not int or pair[1] < 2 or any(adds_up(pair[0], column) % pair[1]
                                                          for column in zip(*added)):
            return False
        if adds_up(pair[0], shift) % pair[1] == 0:
            return False
    return True


class ShowsBackTest(unittest.TestCase):
    def test_what_comes_back_returns(self):
        for frame in FRAMES.values():
            self.assertIs(shows_back(frame, comes_back(frame)), True)

    def test_back_of_whatever_turn(self):
        for name in ("turned line", "half turns", "triangle", "square", "mirrors", "bottle", "two screws",
                     "cyclic 8 0 0", "cyclic 6 1 5", "moved mirrors", "quaternions"):
            frame = FRAMES[name]
            for shift in itertools.product((-1, 0, 3), repeat=frame.wide):
                for turn in range(frame.many):
                    motion = (shift, turn)
                    after = returns(frame, motion)
                    for times in range(-1, 18):
                        right = times == after and times > 1
                        self.assertIs(shows_back(frame, Back(motion, times)), right)
                    self.assertIs(shows_back(frame, Back([list(shift), turn], after)), after > 1)

    def test_papers_bent_in_one_place(self):
        seen = {True: 0, False: 0}
        for name in ("turned line", "half turns", "triangle", "bottle", "two screws", "fourth screw", "space",
                     "cyclic 3 0 0", "cyclic 2 1 1", "moved two screws", "moved third screw", "cyclic 1 0 0"):
            frame = FRAMES[name]
            paper = comes_back(frame)
            for parts, odd in bent_parts(paper):
                right = (told_back if paper else told_away)(frame, *parts)
                self.assertFalse(right and odd)
                self.assertIs(shows_back(frame, type(paper)(*parts)), right)
                seen[right] += 1
        self.assertGreater(min(seen.values()), 20)

    def test_still_does_not_come_back(self):
        for frame in FRAMES.values():
            for times in (0, 1, 2, True, None):
                self.assertIs(shows_back(frame, Back(frame.still, times)), False)

    def test_never(self):
        for motion in (((1, 0), 0), ((0, 5), 1), ((0, 0), 1)):
            for times in (0, 1, 2, 4, False, None):
                self.assertIs(shows_back(FRAMES["bottle"], Back(motion, times)), False)

    def test_away_of_frames_in_which_motions_come_back(self):
        for name in ("turned line", "half turns", "triangle", "cyclic 2 0 0", "cyclic 5 0 0"):
            frame = FRAMES[name]
            for row in itertools.product((-1, 0, 1, 2), repeat=frame.wide):
                for modulus in (2, 3, 4):
                    self.assertIs(shows_back(frame, Away([(row, modulus)] * (frame.many - 1))), False)
            self.assertIs(shows_back(frame, Away(())), False)

    def test_away(self):
        screws = FRAMES["two screws"]
        right = [((1, 0, 0), 2), ((0, 1, 0), 2), ((0, 0, 1), 2)]
        self.assertIs(shows_back(screws, Away(right)), True)
        self.assertIs(shows_back(screws, Away([[[1, 0, 0], 2], [[0, 3, 0], 2], ((4, 4, -1), 2)])), True)
        for rows in (right[:2], right + right[:1], right[::-1], [], None, "abc", {1: 2}, [1, 2, 3], [None] * 3,
                     [(), (), ()], [((1, 0, 0), 2, 2)] + right[1:], [((1, 0, 0),)] + right[1:],
                     [((1, 0), 2)] + right[1:], [((1, 0, 0, 0), 2)] + right[1:], [((True, 0, 0), 2)] + right[1:],
                     [((1, 0, 0), 1)] + right[1:], [((1, 0, 0), 0)] + right[1:], [((1, 0, 0), -2)] + right[1:],
                     [((1, 0, 0), "2")] + right[1:], [((1, 0, 0), 2.0)] + right[1:], [("100", 2)] + right[1:],
                     [(2, (1, 0, 0))] + right[1:], [((2, 0, 0), 2)] + right[1:], [((1, 0, 0), 4)] + right[1:],
                     [((0, 0, 0), 2)] + right[1:], ["ab"] + right[1:], [{0: (1, 0, 0), 1: 2}] + right[1:]):
            self.assertIs(shows_back(screws, Away(rows)), False)

    def test_one_turn(self):
        for name in ("line", "space", "cyclic 1 0 0"):
            for rows, right in (((), True), ([], True), (None, False), ("", False), ({}, False), (0, False),
                                ([((1,), 2)], False), ([()], False)):
                self.assertIs(shows_back(FRAMES[name], Away(rows)), right)

    def test_other_values(self):
        for name in ("turned line", "bottle", "space", "cyclic 2 0 0", "two screws"):
            paper = comes_back(FRAMES[name])
            swapped = Denial("back", *paper.parts) if paper else Paper("away", *paper.parts)
            for value in NO_PAPERS + (Whole((1,)), Barred((1,), 2), paper.parts, swapped,
                                      Paper(paper.word, *paper.parts), Denial(paper.word, *paper.parts)):
                self.assertIs(shows_back(FRAMES[name], value), False)

    def test_no_motions(self):
        frame = FRAMES["half turns"]
        for motion in NO_ROWS + ((), ((0, 0),), ((0,), 1), ((0, 0, 0), 1), ((0, 0), 2), ((0, 0), -1), ((0, 0), True),
                                 ((0, False), 1), ((0, 0), 1, 1), ("00", 1), ((0, 0), "1"), ((0, 0.0), 1)):
            self.assertIs(shows_back(frame, Back(motion, 2)), False)
        for times in (2.0, "2", None, True, (2,), [2]):
            self.assertIs(shows_back(frame, Back(((0, 0), 1), times)), False)

    def test_by_name(self):
        self.assertIs(shows_back(value=Back([[5], 1], 2), frame=FRAMES["turned line"]), True)

    def test_errors_ahead_of_the_value(self):
        for frame in NO_FRAMES:
            for value in (None, Away(()), Back(((0,), 1), 2)):
                with self.assertRaises(BadFrame) as caught:
                    shows_back(frame, value)
                self.assertEqual(caught.exception.part, "frame")


class FurtherFramesTest(unittest.TestCase):
    def test_cyclic_ones(self):
        for many, climb in itertools.product(range(1, 9), range(-3, 9)):
            frame = Frame(*cyclic(many, 1, climb))
            self.assertIs(shows_back(frame, comes_back(frame)), True)


if __name__ == "__main__":
    unittest.main()
