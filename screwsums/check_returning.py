"""Which papers of wholes.py and returning.py are right."""

from screwsums.checks import is_row, is_within
from screwsums.errors import BadFrame
from screwsums.frames import Frame, is_motion_of
from screwsums.returning import Away, Back, returns, rows_of_turn
from screwsums.shifts import along, combined, turned
from screwsums.wholes import Barred, Whole, check_goals


def shows_whole(rows, goals, value):
    """Whether any value is a right Whole, or a right Barred, of the rows and the goals."""
    check_goals(rows, goals)
    if type(value) is Whole:
        return is_row(value.numbers, len(rows[0])) and turned(rows, value.numbers) == tuple(goals)
    return type(value) is Barred and are_barred(rows, goals, value.row, value.modulus)


def are_barred(rows, goals, row, modulus):
    """Whether any row and modulus bar the goals of the rows; rows and goals are not checked."""
    if not is_row(row, len(rows)) or not is_within(modulus, 2, None):
        return False
    if any([number % modulus != 0 for number in combined(row, rows)]):
        return False
    return along(row, goals) % modulus != 0


def shows_back(frame, value):
    """Whether any value is a right Back, or a right Away, of the frame."""
    if not isinstance(frame, Frame):
        raise BadFrame("frame")
    if type(value) is Back:
        return _is_back(frame, value.motion, value.times)
    return type(value) is Away and _are_away(frame, value.rows)


def _is_back(frame, motion, times):
    # The still motion is back after 1, but does not come back: it has not been away.
    if not is_motion_of(frame, motion) or not is_within(times, 2, None):
        return False
    return returns(frame, motion) == times


def _are_away(frame, rows):
    if not isinstance(rows, tuple) or len(rows) != frame.many - 1:
        return False
    return all([_is_away(frame, turn, pair) for turn, pair in enumerate(rows, start=1)])


def _is_away(frame, turn, pair):
    if not isinstance(pair, tuple) or len(pair) != 2:
        return False
    rows, goals = rows_of_turn(frame, turn)
    return are_barred(rows, goals, pair[0], pair[1])
