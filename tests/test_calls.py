"""Over the whole program: which error each parameter raises, in which order, and lists and tuples for one another."""

import copy
import unittest

from screwsums.check_cut import shows_cut, shows_cut_right
from screwsums.check_ladders import shows_ladder
from screwsums.check_leads import shows_merged
from screwsums.check_moved import shows_moved
from screwsums.check_rests import shows_undo_rests
from screwsums.check_returning import shows_back, shows_whole
from screwsums.check_undone import shows_undo
from screwsums.checks import common_divisor, over
from screwsums.cut import cut, cut_right
from screwsums.determinants import determinant
from screwsums.errors import BadFrame, BadLead, BadLot, BadMotion, BadNumber, BadPaper, BadSum, Misfit
from screwsums.faults import fault_of
from screwsums.firstsums import first_sums
from screwsums.frames import Frame
from screwsums.heights import height, heights
from screwsums.ladders import Ladder, ascending, ladder_of, sign_of
from screwsums.leads import Lead, merged
from screwsums.levels import level
from screwsums.lots import ends, meets, met_once
from screwsums.motions import by_turn, carried, is_motion
from screwsums.moved import moved, moved_motion, start_between
from screwsums.named import beside, named
from screwsums.papers import Paper
from screwsums.rests import rests_of
from screwsums.returning import comes_back, returns
from screwsums.screws import led_screws, two_screws
from screwsums.shaped import contrary, heads_fit, lack, powers, shaped
from screwsums.signwords import shows_sign_words, sign_words
from screwsums.squares import row_times, vanishing
from screwsums.sums import Sum, still_sum
from screwsums.tables import table_of
from screwsums.undone import undo
from screwsums.undonerests import undo_rests
from screwsums.wholes import whole
from tests.test_interface import CLASSES, FUNCTIONS

WRONG = (None, True, "a", 1.5, {}, object())
BOTTLE, LINE, SCREWS = named("bottle"), named("line"), two_screws()
GLIDE, ALONG = ((0, 0), 1), ((1, 0), 0)
TOTAL = Sum(BOTTLE, 3, [(GLIDE, 2), (ALONG, 1)])
HEADS = Sum(SCREWS, 2, [(SCREWS.still, 1)])
RUNGS = Ladder([((1, 0), [(0, 1)], [((0, 0), 0)]), ((1,), (), [((0,), 0)])])
LEAD = Lead(BOTTLE, LINE, [[2, 0]], [((0,), 0), ((1,), 0)])
FREE = None

# What is called, with what is right, and which error comes of each parameter; FREE where none does.
CALLS = (
    (common_divisor, ([4, 6],), (BadNumber,), ("values",)),
    (over, (3, 7), (BadNumber, BadNumber), ("number", "by")),
    (fault_of, (1, [[0]], [[[1]]], [[[0]]]), (BadFrame,) * 4, ("wide", "turns", "squares", "gaps")),
    (Frame, (1, [[0]], [[[1]]], [[[0]]]), (BadFrame,) * 4, ("wide", "turns", "squares", "gaps")),
    (BOTTLE.times, (GLIDE, ALONG), (BadMotion,) * 2, ("one", "other")),
    (BOTTLE.undone, (GLIDE,), (BadMotion,), ("motion",)),
    (BOTTLE.power, (GLIDE, 5), (BadMotion, BadNumber), ("motion", "number")),
    (BOTTLE.product, ([GLIDE, ALONG],), (BadMotion,), ("motions",)),
    (is_motion, (BOTTLE, GLIDE), (BadFrame, FREE), ("frame", "value")),
    (by_turn, (BOTTLE, [GLIDE, ALONG]), (BadFrame, BadMotion), ("frame", "motions")),
    (carried, (BOTTLE, GLIDE, (3, 4)), (BadFrame, BadMotion, BadNumber), ("frame", "motion", "shift")),
    (named, ("line",), (BadNumber,), ("word",)),
    (beside, (LINE, BOTTLE), (BadFrame, BadFrame), ("one", "other")),
    (row_times, ((1, -2), [[3, 0], [1, 1]]), (BadNumber,) * 2, ("row", "rows")),
    (vanishing, (3, [[2, 4, 6]]), (BadNumber,) * 2, ("wide", "rows")),
    (whole, ([[2, 0], [1, 1]], [4, 7]), (BadNumber,) * 2, ("rows", "goals")),
    (comes_back, (BOTTLE,), (BadFrame,), ("frame",)),
    (returns, (BOTTLE, GLIDE), (BadFrame, BadMotion), ("frame", "motion")),
    (shows_whole, ([[4, 6]], [3], 1), (BadNumber, BadNumber, FREE), ("rows", "goals", "value")),
    (shows_back, (BOTTLE, comes_back(BOTTLE)), (BadFrame, FREE), ("frame", "value")),
    (Sum, (BOTTLE, 3, [(GLIDE, 2), (ALONG, 1)]), (BadFrame, BadNumber, BadSum), ("frame", "by", "terms")),
    (TOTAL.plus, (TOTAL,), (BadSum,), ("other",)),
    (TOTAL.less, (TOTAL,), (BadSum,), ("other",)),
    (TOTAL.times, (TOTAL,), (BadSum,), ("other",)),
    (TOTAL.scaled, (2,), (BadNumber,), ("number",)),
    (TOTAL.at_turn, (1,), (BadNumber,), ("turn",)),
    (still_sum, (BOTTLE, 3), (BadFrame, BadNumber), ("frame", "by")),
    (table_of, (TOTAL,), (BadSum,), ("total",)),
    (determinant, (TOTAL,), (BadSum,), ("total",)),
    (undo, (TOTAL,), (BadSum,), ("total",)),
    (shows_undo, (TOTAL, undo(TOTAL)), (BadSum, FREE), ("total", "value")),
    (cut, (TOTAL,), (BadSum,), ("total",)),
    (cut_right, (TOTAL,), (BadSum,), ("total",)),
    (shows_cut, (TOTAL, cut(TOTAL)), (BadSum, FREE), ("total", "value")),
    (shows_cut_right, (TOTAL, cut(TOTAL)), (BadSum, FREE), ("total", "value")),
    (heights, (BOTTLE,), (BadFrame,), ("frame",)),
    (height, (BOTTLE, (1, 0), GLIDE), (BadFrame, BadNumber, BadMotion), ("frame", "row", "motion")),
    (level, (BOTTLE, (1, 0)), (BadFrame, BadNumber), ("frame", "row")),
    (ladder_of, (BOTTLE,), (BadFrame,), ("frame",)),
    (sign_of, (BOTTLE, RUNGS, GLIDE), (BadFrame, BadPaper, BadMotion), ("frame", "ladder", "motion")),
    (ascending, (BOTTLE, RUNGS, [GLIDE, ALONG]), (BadFrame, BadPaper, BadLot), ("frame", "ladder", "motions")),
    (shows_ladder, (BOTTLE, RUNGS), (BadFrame, FREE), ("frame", "value")),
    (sign_words, (BOTTLE, [GLIDE, ALONG], 4), (BadFrame, BadLot, BadNumber), ("frame", "motions", "most")),
    (shows_sign_words, (BOTTLE, [GLIDE, ALONG], 4, sign_words(BOTTLE, [GLIDE, ALONG], 4)),
     (BadFrame, BadLot, BadNumber, FREE), ("frame", "motions", "most", "value")),
    (meets, (BOTTLE, [GLIDE, ALONG], [ALONG]), (BadFrame, BadLot, BadLot), ("frame", "one", "other")),
    (met_once, (BOTTLE, [GLIDE, ALONG], [ALONG]), (BadFrame, BadLot, BadLot), ("frame", "one", "other")),
    (ends, (BOTTLE, RUNGS, [GLIDE, ALONG], [ALONG]), (BadFrame, BadPaper, BadLot, BadLot),
     ("frame", "ladder", "one", "other")),
    (moved, (BOTTLE, [(0, 0), (1, 4)]), (BadFrame, BadNumber), ("frame", "starts")),
    (moved_motion, (BOTTLE, [(0, 0), (1, 4)], GLIDE), (BadFrame, BadNumber, BadMotion), ("frame", "starts", "motion")),
    (start_between, (BOTTLE, moved(BOTTLE, [(0, 0), (1, 4)])), (BadFrame, BadFrame), ("frame", "other")),
    (first_sums, (BOTTLE,), (BadFrame,), ("frame",)),
    (shows_moved, (BOTTLE, BOTTLE, start_between(BOTTLE, BOTTLE)), (BadFrame, BadFrame, FREE), ("frame", "other", "value")),
    (Lead, (BOTTLE, LINE, [[2, 0]], [((0,), 0), ((1,), 0)]), (BadFrame, BadFrame, BadLead, BadLead),
     ("frame", "other", "square", "motions")),
    (LEAD.image, (GLIDE,), (BadMotion,), ("motion",)),
    (LEAD.image_sum, (TOTAL,), (BadSum,), ("total",)),
    (Lead(LINE, LINE, [[3]], [((0,), 0)]).after, (LEAD,), (BadLead,), ("first",)),
    (merged, (LEAD,), (BadLead,), ("lead",)),
    (shows_merged, (LEAD, merged(LEAD)), (BadLead, FREE), ("lead", "value")),
    (two_screws, (), (), ()),
    (led_screws, ((1, 0, 0), (0, 0, 2)), (BadNumber, BadNumber), ("first", "second")),
    (shaped, (HEADS,), (BadSum,), ("heads",)),
    (lack, (HEADS,), (BadSum,), ("heads",)),
    (heads_fit, (HEADS,), (BadSum,), ("heads",)),
    (contrary, (HEADS,), (BadSum,), ("total",)),
    (powers, (3, 2), (BadNumber, BadNumber), ("by", "many")),
    (rests_of, (TOTAL, 3), (BadSum, BadNumber), ("total", "rest")),
    (undo_rests, (TOTAL, 3), (BadSum, BadNumber), ("total", "rest")),
    (shows_undo_rests, (TOTAL, 3, undo_rests(TOTAL, 3)), (BadSum, BadNumber, FREE), ("total", "rest", "value")),
)


def turned(value, kind):
    """The value with lists, or tuples, for tuples and lists all the way in."""
    return kind(turned(part, kind) for part in value) if isinstance(value, (list, tuple)) else value


def anew(value, kind):
    """An equal value, the frames, sums and papers in it made again."""
    if isinstance(value, Frame):
        return Frame(value.wide, *[turned(part, kind) for part in (value.turns, value.squares, value.gaps)])
    if isinstance(value, Sum):
        return Sum(anew(value.frame, kind), value.by, turned(value.terms, kind))
    if isinstance(value, Lead):
        return Lead(anew(value.frame, kind), anew(value.other, kind), turned(value.square, kind), turned(value.motions, kind))
    if isinstance(value, Paper):
        return type(value)(*[anew(part, kind) for part in value.parts])
    return turned(value, kind)


class CallsTest(unittest.TestCase):
    def test_which_error_of_several(self):
        for call, right, errors, names in CALLS:
            for at, kind in enumerate(errors):
                if kind is FREE:
                    continue
                for wrong in WRONG:
                    # All behind are wrong, too, or right.
                    for further in ([wrong] * (len(right) - at - 1), list(right[at + 1:])):
                        parts = [*right[:at], wrong, *further]
                        with self.subTest(call=call, parts=parts):
                            with self.assertRaises(kind) as caught:
                                call(**dict(zip(names, parts, strict=True)))
                            self.assertIs(type(caught.exception), kind)
                            self.assertEqual(caught.exception.part, names[at])

    def test_any_value_is_shown(self):
        for call, right, errors, names in CALLS:
            if names[-1:] == ("value",):
                for value in WRONG + (Paper("a"), [], (1,), 10 ** 30, b"a", BOTTLE, TOTAL, LEAD, Misfit("part")):
                    self.assertIs(call(*right[:-1], value), False)
                self.assertIn(call(*right), (True, False))

    def test_lists_and_tuples_for_one_another(self):
        for call, right, errors, names in CALLS:
            with self.subTest(call=call):
                found = call(*right)
                for kind in (list, tuple):
                    parts = [anew(part, kind) for part in right]
                    before = copy.deepcopy([part for part in parts if isinstance(part, (list, tuple))])
                    again = call(**dict(zip(names, parts, strict=True)))
                    self.assertIs(type(again), type(found))
                    self.assertTrue(again == found)
                    self.assertEqual([part for part in parts if isinstance(part, (list, tuple))], before)

    def test_each_function_of_the_interface_is_called(self):
        called = {call.__name__ for call, _, _, _ in CALLS}
        told = {name for module, names in FUNCTIONS.items() if module != "papers" for name in names}
        told |= {"Frame", "Sum", "Lead"} | {method for names in CLASSES.values() for name in ("Frame", "Sum", "Lead")
                                            for method in names.get(name, {}) if not method.startswith("__")}
        free = {"is_integer", "is_within", "are_integers", "is_row", "are_rows", "is_by", "flipped"}
        self.assertEqual(called, told - free)


if __name__ == "__main__":
    unittest.main()
