"""The level of a row: all motions of height 0."""

from screwsums.errors import BadFrame, BadNumber, Misfit
from screwsums.frames import Frame
from screwsums.heights import height_of_turn, is_row_of
from screwsums.papers import Paper, fixed
from screwsums.shifts import no_shift
from screwsums.squares import vanishing
from screwsums.steps import Step, level_turns
from screwsums.wholes import whole_or_barred


class Level(Paper):
    """The frame of a level, and the basis and the motions by which it is told."""

    def __init__(self, frame, shifts, motions):
        self.word = "level"
        self.parts = fixed((frame, shifts, motions))
        self.frame, self.shifts, self.motions = self.parts


def level(frame, row):
    """The Level of a row of the frame that is not 0s."""
    if not isinstance(frame, Frame):
        raise BadFrame("frame")
    if not is_row_of(frame, row):
        raise BadNumber("row")
    if tuple(row) == no_shift(frame.wide):
        raise Misfit("row")
    shifts = vanishing(frame.wide, [row])
    motions = [_level_motion(frame, row, turn) for turn in level_turns(frame, row)]
    return Level(Step(frame, row, shifts, motions).level_frame(), shifts, motions)


def _level_motion(frame, row, turn):
    """A motion of height 0 of a turn that has one."""
    if turn == 0:
        return frame.still
    goal = -height_of_turn(frame, row, turn) // frame.many
    return (whole_or_barred(frame.wide, [row], [goal]).numbers, turn)
