"""What keeps a wide, turns, squares and gaps from being a frame."""

from screwsums.checks import are_rows, is_within
from screwsums.errors import BadFrame
from screwsums.papers import Denial, fixed
from screwsums.shifts import added, no_shift, squares_joined, turned, unit_square

MOST_WIDE = 3
MOST_TURNS = 8


class Fault(Denial):
    """The first fault of what is told as a frame: its word, and the first turns that have it."""

    def __init__(self, why, at):
        self.word = "fault"
        self.parts = fixed((why, at))
        self.why, self.at = self.parts


def fault_of(wide, turns, squares, gaps):
    """The Fault of what is told as a frame, None if there is none."""
    if not is_within(wide, 0, MOST_WIDE):
        raise BadFrame("wide")
    if not _are_turns(turns):
        raise BadFrame("turns")
    if not _are_tables(squares, len(turns), wide, wide):
        raise BadFrame("squares")
    if not _are_tables(gaps, len(turns), len(turns), wide):
        raise BadFrame("gaps")
    # A Fault is false as a denial, so each one is asked for by None.
    fault = _fault_of_turns(turns)
    if fault is None:
        fault = _fault_of_squares(wide, turns, fixed(squares))
    if fault is None:
        fault = _fault_of_gaps(wide, turns, squares, fixed(gaps))
    return fault


def _are_turns(value):
    if not isinstance(value, (list, tuple)) or not 1 <= len(value) <= MOST_TURNS:
        return False
    if not are_rows(value, len(value), len(value)):
        return False
    return all([is_within(turn, 0, len(value) - 1) for row in value for turn in row])


def _are_tables(value, tables, many, wide):
    if not isinstance(value, (list, tuple)) or len(value) != tables:
        return False
    return all([are_rows(table, many, wide) for table in value])


def _fault_of_turns(turns):
    every = range(len(turns))
    for c in every:
        if turns[0][c] != c or turns[c][0] != c:
            return Fault("still", (c,))
    for c in every:
        for d in every:
            for e in every:
                if turns[turns[c][d]][e] != turns[c][turns[d][e]]:
                    return Fault("threes", (c, d, e))
    for c in every:
        if 0 not in turns[c]:
            return Fault("none", (c,))
    return None


def _fault_of_squares(wide, turns, squares):
    if squares[0] != unit_square(wide):
        return Fault("square", (0,))
    every = range(len(turns))
    for c in every:
        for d in every:
            if squares_joined(squares[c], squares[d], wide) != squares[turns[c][d]]:
                return Fault("squares", (c, d))
    return None


def _fault_of_gaps(wide, turns, squares, gaps):
    every = range(len(turns))
    for c in every:
        if gaps[0][c] != no_shift(wide) or gaps[c][0] != no_shift(wide):
            return Fault("gap", (c,))
    for c in every:
        for d in every:
            for e in every:
                ahead = added(turned(squares[c], gaps[d][e]), gaps[c][turns[d][e]])
                if ahead != added(gaps[c][d], gaps[turns[c][d]][e]):
                    return Fault("gaps", (c, d, e))
    return None
