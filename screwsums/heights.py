"""Heights: integers that motions have by rows of a frame, and that add up as motions are multiplied."""

from screwsums.checks import is_row
from screwsums.errors import BadFrame, BadMotion, BadNumber
from screwsums.frames import Frame, is_motion_of
from screwsums.shifts import along, combined
from screwsums.squares import vanishing


def heights(frame):
    """A basis of all rows of the frame."""
    if not isinstance(frame, Frame):
        raise BadFrame("frame")
    # A row is one of the frame exactly if it makes 0s of the columns of each square, each column
    # less the shift that the square takes to it.
    asked = []
    for square in frame.squares[1:]:
        for place, column in enumerate(zip(*square)):
            asked.append([number - int(at == place) for at, number in enumerate(column)])
    return vanishing(frame.wide, asked)


def height(frame, row, motion):
    """The height of a motion by a row of the frame."""
    if not isinstance(frame, Frame):
        raise BadFrame("frame")
    if not is_row_of(frame, row):
        raise BadNumber("row")
    if not is_motion_of(frame, motion):
        raise BadMotion("motion")
    return height_of(frame, row, motion)


def is_row_of(frame, value):
    """Whether any value is a row of a Frame: each square leaves it."""
    if not is_row(value, frame.wide):
        return False
    return all([combined(value, square) == tuple(value) for square in frame.squares])


def height_of_turn(frame, row, turn):
    """The height that the turn adds to that of each of its motions."""
    return sum([along(row, gap) for gap in frame.gaps[turn]])


def height_of(frame, row, motion):
    """As height; nothing is checked."""
    return frame.many * along(row, motion[0]) + height_of_turn(frame, row, motion[1])
