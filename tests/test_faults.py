import copy
import itertools
import unittest

from screwsums.errors import BadFrame
from screwsums.faults import Fault, fault_of
from screwsums.papers import Denial
from tests.lawful import (NO_INTEGERS, NO_ROWS, SWAP, all_tuples, cyclic, flat, lawful_frames, matrix_product, no_gaps,
                          summed, taken, unit)


def told_fault(wide, turns, squares, gaps):
    """The word and the turns of the first fault, as the document tells the seven, one row each."""
    every = range(len(turns))
    pairs = list(itertools.product(every, repeat=2))
    threes = list(itertools.product(every, repeat=3))
    wrong = [
        ("still", [(c,) for c in every if turns[0][c] != c or turns[c][0] != c]),
        ("threes", [(c, d, e) for c, d, e in threes if turns[turns[c][d]][e] != turns[c][turns[d][e]]]),
        ("none", [(c,) for c in every if all(turns[c][d] != 0 for d in every)]),
        ("square", [(0,) for _ in range(squares[0] != unit(wide))]),
        ("squares", [(c, d) for c, d in pairs if matrix_product(squares[c], squares[d]) != squares[turns[c][d]]]),
        ("gap", [(c,) for c in every if any(gaps[0][c]) or any(gaps[c][0])]),
        ("gaps", [(c, d, e) for c, d, e in threes
                  if summed(taken(squares[c], gaps[d][e]), gaps[c][turns[d][e]])
                  != summed(gaps[c][d], gaps[turns[c][d]][e])])]
    return next(((why, min(at)) for why, at in wrong if at), None)


def spoiled(told):
    """All that differ from what is told in one integer: each turn, and each place by a few."""
    wide, turns, squares, gaps = told
    many = len(turns)
    for c, d in itertools.product(range(many), repeat=2):
        for turn in range(many):
            further = copy.deepcopy(turns)
            further[c][d] = turn
            yield wide, further, squares, gaps
    for c, row, at, more in itertools.product(range(many), range(wide), range(wide), (-1, 1)):
        further = copy.deepcopy(squares)
        further[c][row][at] += more
        yield wide, turns, further, gaps
    for c, d, at, more in itertools.product(range(many), range(many), range(wide), (-2, 1)):
        further = copy.deepcopy(gaps)
        further[c][d][at] += more
        yield wide, turns, squares, further


class LawfulTest(unittest.TestCase):
    def test_none(self):
        seen = set()
        for name, told in lawful_frames().items():
            with self.subTest(name=name):
                self.assertIsNone(told_fault(*told))
                self.assertIsNone(fault_of(*told))
                seen.add((told[0], len(told[1])))
        self.assertEqual(seen, set(itertools.product(range(4), range(1, 9))))

    def test_by_name(self):
        self.assertIsNone(fault_of(gaps=[[[0]]], squares=[[[1]]], turns=[[0]], wide=1))

    def test_tuples_for_lists(self):
        self.assertIsNone(fault_of(1, ((0, 1), [1, 0]), ([[1]], [(-1,)]), [[(0,), [0]], ([0], (0,))]))
        self.assertIsNone(fault_of(0, ((0,),), ((),), (((),),)))
        self.assertIsNone(fault_of(0, [[0]], [[]], [[()]]))

    def test_great_integers(self):
        great = 10 ** 29 + 7
        self.assertIsNone(fault_of(*cyclic(8, 3, great)))
        self.assertIsNone(fault_of(1, SWAP, [[[1]], [[1]]], [[[0], [0]], [[0], [great]]]))


class FaultsTest(unittest.TestCase):
    def told(self, why, at, *told):
        self.assertEqual(told_fault(*told), (why, at))
        fault = fault_of(*told)
        self.assertEqual(fault, Fault(why, at))
        self.assertEqual((fault.word, fault.parts, fault.why, fault.at), ("fault", (why, at), why, at))
        self.assertIsInstance(fault, Denial)
        self.assertIs(bool(fault), False)
        self.assertTrue(all_tuples(fault.parts))

    def test_still(self):
        empty = [[], []], no_gaps(2, 0)
        self.told("still", (0,), 0, [[1, 0], [0, 1]], *empty)
        self.told("still", (1,), 0, [[0, 0], [1, 0]], *empty)
        self.told("still", (1,), 0, [[0, 1], [0, 0]], *empty)
        self.told("still", (2,), 0, [[0, 1, 1], [1, 2, 0], [2, 0, 1]], [[]] * 3, no_gaps(3, 0))

    def test_threes(self):
        self.told("threes", (1, 1, 2), 0, [[0, 1, 2], [1, 0, 0], [2, 0, 0]], [[]] * 3, no_gaps(3, 0))
        self.told("threes", (1, 1, 1), 0, [[0, 1, 2], [1, 2, 2], [2, 0, 1]], [[]] * 3, no_gaps(3, 0))

    def test_none(self):
        self.told("none", (1,), 0, [[0, 1], [1, 1]], [[], []], no_gaps(2, 0))
        self.told("none", (2,), 0, [[0, 1, 2], [1, 0, 2], [2, 2, 2]], [[]] * 3, no_gaps(3, 0))

    def test_square(self):
        self.told("square", (0,), 1, [[0]], [[[2]]], [[[0]]])
        self.told("square", (0,), 2, [[0]], [[[0, 1], [1, 0]]], [[[0, 0]]])
        self.told("square", (0,), 2, [[0]], [[[1, 0], [1, 1]]], [[[0, 0]]])

    def test_squares(self):
        self.told("squares", (1, 1), 1, SWAP, [[[1]], [[2]]], no_gaps(2, 1))
        _, turns, squares, gaps = flat(2, [[[0, -1], [1, 0]]])
        self.told("squares", (1, 1), 2, turns, [squares[0], squares[3], squares[1], squares[2]], gaps)
        self.told("squares", (1, 2), 2, turns, squares[:3] + [squares[0]], gaps)

    def test_gap(self):
        self.told("gap", (0,), 1, SWAP, [[[1]], [[-1]]], [[[3], [0]], [[0], [0]]])
        self.told("gap", (1,), 1, SWAP, [[[1]], [[-1]]], [[[0], [1]], [[0], [0]]])
        self.told("gap", (1,), 1, SWAP, [[[1]], [[-1]]], [[[0], [0]], [[-1], [0]]])

    def test_gaps(self):
        self.told("gaps", (1, 1, 1), 1, SWAP, [[[1]], [[-1]]], [[[0], [0]], [[0], [1]]])
        wide, turns, squares, gaps = cyclic(3, 1, 1)
        gaps[2][2] = [2]
        self.told("gaps", (1, 1, 2), wide, turns, squares, gaps)

    def test_of_several_the_first(self):
        bad_gaps, bad_gap = [[[0], [0]], [[0], [1]]], [[[0], [1]], [[0], [1]]]
        self.told("gap", (1,), 1, SWAP, [[[1]], [[-1]]], bad_gap)
        self.told("squares", (1, 1), 1, SWAP, [[[1]], [[2]]], bad_gap)
        self.told("square", (0,), 1, SWAP, [[[2]], [[2]]], bad_gap)
        self.told("none", (1,), 1, [[0, 1], [1, 1]], [[[2]], [[2]]], bad_gaps)
        self.told("threes", (2, 1, 2), 1, [[0, 1, 2], [1, 1, 1], [2, 2, 1]], [[[2]]] * 3,
                  [[[1]] * 3] * 3)
        self.told("still", (0,), 1, [[1, 1], [1, 1]], [[[2]], [[2]]], bad_gap)

    def test_one_integer_spoiled(self):
        words = set()
        frames = lawful_frames()
        for name in ("cyclic 3 1 1", "cyclic 4 0 0", "turned line", "bottle", "two screws", "third screw", "triangle"):
            for told in spoiled(frames[name]):
                fault = fault_of(*told)
                expected = told_fault(*told)
                self.assertEqual(None if fault is None else fault.parts, expected)
                words.add(expected and expected[0])
        self.assertEqual(words, {None, "still", "threes", "none", "square", "squares", "gap", "gaps"})

    def test_all_tables_of_three_turns(self):
        words = set()
        for table in itertools.product(range(3), repeat=4):
            turns = [[0, 1, 2], [1, *table[:2]], [2, *table[2:]]]
            fault = fault_of(0, turns, [[]] * 3, no_gaps(3, 0))
            expected = told_fault(0, turns, [[]] * 3, no_gaps(3, 0))
            self.assertEqual(None if fault is None else fault.parts, expected)
            words.add(expected and expected[0])
        self.assertEqual(words, {None, "threes", "none"})


class RefusedTest(unittest.TestCase):
    def refused(self, part, *told):
        with self.assertRaises(BadFrame) as caught:
            fault_of(*told)
        self.assertEqual(caught.exception.part, part)

    def test_wide(self):
        for value in NO_INTEGERS + (-1, 4, 10 ** 30, "0", []):
            self.refused("wide", value, [[0]], [[]], [[[]]])
            self.refused("wide", value, None, None, None)

    def test_turns(self):
        nine = [[(c + d) % 9 for d in range(9)] for c in range(9)]
        for value in NO_ROWS + ([], (), [0], [[]], [[0, 0]], [[0], [0]], [[0, 1]], [[0, 1], [1]], [[0, 1], [1, 2]],
                                [[0, 1], [1, -1]], [[0, 1], [1, True]], [[0, 1], [1, None]], [[0, 1], "10"],
                                [[False]], [["0"]], [[0.0]], [[1]], [[[0]]], nine, {0: [0]}):
            self.refused("turns", 1, value, [[[1]]], [[[0]]])
            self.refused("turns", 1, value, None, None)

    def test_squares(self):
        for value in NO_ROWS + ([], (), [[[1]]], [[[1]], [[1]], [[1]]], [[1], [1]], [[[1]], [[1, 0]]], [[[1]], [[]]],
                                [[[1]], [[True]]], [[[1]], [["1"]]], [[[1]], [[1], [1]]], [[[1]], []],
                                [[[1]], None], [[[1]], "1"], [[[1]], [1]], [[[1]], [[1.0]]], [[[1]], [None]]):
            self.refused("squares", 1, SWAP, value, no_gaps(2, 1))
            self.refused("squares", 1, SWAP, value, None)
        self.refused("squares", 0, SWAP, [[], [[]]], no_gaps(2, 0))
        self.refused("squares", 2, [[0]], [[[1, 0]]], no_gaps(1, 2))

    def test_gaps(self):
        units = [[[1]], [[1]]]
        for value in NO_ROWS + ([], (), [[[0], [0]]], [[[0], [0]]] * 3, [[[0], [0]], [[0]]], [[[0], [0]], [[0], []]],
                                [[[0], [0]], [[0], [0, 0]]], [[[0], [0]], [[0], 0]], [[[0], [0]], [[0], [False]]],
                                [[[0], [0]], [[0], ["0"]]], [[[0], [0]], [[0], None]], [[[0], [0]], None],
                                [[[0], [0]], [0, 0]], [[[0], [0]], [[0], [0.0]]], [[[0], [0]], [[0], [0], [0]]]):
            self.refused("gaps", 1, SWAP, units, value)
        self.refused("gaps", 0, SWAP, [[], []], [[[], []], [[], [0]]])

    def test_parts_ahead_of_faults(self):
        self.refused("squares", 1, [[0, 0], [0, 0]], [[[1]]], None)
        self.refused("gaps", 1, [[0, 0], [0, 0]], [[[2]], [[2]]], None)

    def test_what_is_passed_stays(self):
        for told in list(lawful_frames().values())[-12:] + [(1, [[0, 1], [1, 1]], [[[2]], [[2]]], no_gaps(2, 1))]:
            before = repr(told)
            fault_of(*told)
            self.assertEqual(repr(told), before)


if __name__ == "__main__":
    unittest.main()
