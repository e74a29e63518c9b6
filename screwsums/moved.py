"""Frames told from other starts, and what is between two frames."""

from screwsums.checks import are_rows
from screwsums.errors import BadFrame, BadMotion, BadNumber, Misfit, TooMany
from screwsums.frames import Frame, is_motion_of, joined
from screwsums.papers import Paper, fixed
from screwsums.shifts import added, negative, no_shift, unit_square
from screwsums.wholes import Whole, whole_or_barred

MOST_TURNS = 4


class Moved(Paper):
    """Starts by which a frame is moved to another one."""

    def __init__(self, starts):
        self.word = "moved"
        self.parts = fixed((starts,))
        self.starts = self.parts[0]


def moved(frame, starts):
    """The frame moved by the starts."""
    _check_moved(frame, starts)
    return Frame(frame.wide, frame.turns, frame.squares, moved_gaps(frame, starts))


def moved_motion(frame, starts, motion):
    """What a motion of the frame is told as from the starts."""
    _check_moved(frame, starts)
    if not is_motion_of(frame, motion):
        raise BadMotion("motion")
    shift, turn = motion
    return (added(shift, negative(starts[turn])), turn)


def start_between(frame, other):
    """A Moved of starts by which other is frame moved, or the Barred of what keeps all starts from it."""
    check_between(frame, other)
    wide = frame.wide
    rows, goals = asked_between(frame, other)
    found = whole_or_barred(wide * (frame.many - 1), rows, goals)
    if not isinstance(found, Whole):
        return found
    further = [found.numbers[wide * at:wide * (at + 1)] for at in range(frame.many - 1)]
    return Moved([no_shift(wide), *further])


def _check_moved(frame, starts):
    if not isinstance(frame, Frame):
        raise BadFrame("frame")
    if not are_starts(frame, starts):
        raise BadNumber("starts")


def are_starts(frame, value):
    """Whether any value is a list of a shift for each turn of a Frame, the first one 0s."""
    return are_rows(value, frame.many, frame.wide) and tuple(value[0]) == no_shift(frame.wide)


def moved_gaps(frame, starts):
    """The gaps of the frame moved by the starts; neither is checked."""
    every = range(frame.many)
    return tuple([tuple([_moved_gap(frame, starts, c, d) for d in every]) for c in every])


def _moved_gap(frame, starts, c, d):
    # The motions that are told as (0s, c) and (0s, d) from the starts.
    shift, turn = joined(frame, (starts[c], c), (starts[d], d))
    return added(shift, negative(starts[turn]))


def check_between(frame, other):
    """Raises what start_between raises for its arguments."""
    if not isinstance(frame, Frame):
        raise BadFrame("frame")
    if not isinstance(other, Frame):
        raise BadFrame("other")
    if frame.wide != other.wide:
        raise Misfit("wide")
    if frame.turns != other.turns:
        raise Misfit("turns")
    if frame.squares != other.squares:
        raise Misfit("squares")
    if frame.many > MOST_TURNS:
        raise TooMany("turns", MOST_TURNS)


def asked_between(frame, other):
    """The rows and the goals that s(1), s(2), .. make exactly if other is frame moved by these starts.

    For each two turns and each place a row tells s(c) + M_c s(d) - s(c d), and a goal what the gap
    of other has more.
    """
    rows, goals = [], []
    every = range(frame.many)
    for c, d, place in [(c, d, place) for c in every for d in every for place in range(frame.wide)]:
        rows.append(_row_between(frame, c, d, place))
        goals.append(other.gaps[c][d][place] - frame.gaps[c][d][place])
    return rows, goals


def _row_between(frame, c, d, place):
    unit, square, product = unit_square(frame.wide), frame.squares[c], frame.turns[c][d]
    row = []
    for turn in range(1, frame.many):
        own, turned_about = int(turn == c) - int(turn == product), int(turn == d)
        row.extend([own * unit[place][at] + turned_about * square[place][at] for at in range(frame.wide)])
    return row
