"""Motions of a frame: which values are some, in their order, and what they do to shifts."""

from screwsums.checks import is_row
from screwsums.errors import BadFrame, BadMotion, BadNumber
from screwsums.frames import Frame, is_motion_of
from screwsums.papers import fixed
from screwsums.shifts import turned


def is_motion(frame, value):
    """Whether any value is a motion of the frame."""
    if not isinstance(frame, Frame):
        raise BadFrame("frame")
    return is_motion_of(frame, value)


def by_turn(frame, motions):
    """The motions, those of a lesser turn ahead, those of one turn by their shifts."""
    if not isinstance(frame, Frame):
        raise BadFrame("frame")
    if not isinstance(motions, (list, tuple)):
        raise BadMotion("motions")
    if not all([is_motion_of(frame, motion) for motion in motions]):
        raise BadMotion("motions")
    # Python compares no list with a tuple: so all are tuples before they are sorted.
    return tuple(sorted(fixed(motions), key=lambda motion: (motion[1], motion[0])))


def carried(frame, motion, shift):
    """The shift that is the motion times this shift times the motion undone."""
    if not isinstance(frame, Frame):
        raise BadFrame("frame")
    if not is_motion_of(frame, motion):
        raise BadMotion("motion")
    if not is_row(shift, frame.wide):
        raise BadNumber("shift")
    return turned(frame.squares[motion[1]], shift)
