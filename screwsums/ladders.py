"""Ladders of heights, and the order in which motions stand by one."""

from screwsums.errors import BadFrame, BadLot, BadMotion, BadPaper
from screwsums.frames import Frame, is_motion_of, joined, undone_of
from screwsums.heights import heights
from screwsums.levels import level
from screwsums.papers import Denial, Paper, fixed
from screwsums.steps import is_end, right_steps

MOST_MOTIONS = 40


class Ladder(Paper):
    """Steps that lead from a frame to the one that has the still motion alone."""

    def __init__(self, steps):
        self.word = "ladder"
        self.parts = fixed((steps,))
        self.steps = self.parts[0]


class Stuck(Denial):
    """Steps that lead from a frame to one without a row but 0s, and with more motions than the still one."""

    def __init__(self, steps):
        self.word = "stuck"
        self.parts = fixed((steps,))
        self.steps = self.parts[0]


def ladder_of(frame):
    """A Ladder of the frame, or, if it has none, a Stuck."""
    if not isinstance(frame, Frame):
        raise BadFrame("frame")
    steps = []
    below, rows = frame, heights(frame)
    # All ways down come to the same kind of end: so any row will do.
    while rows:
        found = level(below, rows[0])
        steps.append((rows[0], found.shifts, found.motions))
        below, rows = found.frame, heights(found.frame)
    return Ladder(steps) if is_end(below) else Stuck(steps)


def sign_of(frame, ladder, motion):
    """The sign of a motion by a ladder: 1, -1, or 0 for the still one."""
    steps = steps_of(frame, ladder)
    if not is_motion_of(frame, motion):
        raise BadMotion("motion")
    return sign_by(steps, motion)


def ascending(frame, ladder, motions):
    """The motions, each one ahead of all behind it by the ladder."""
    steps = steps_of(frame, ladder)
    if not is_lot(frame, motions, 0, MOST_MOTIONS):
        raise BadLot("motions")
    made = []
    for motion in fixed(motions):
        ahead = [other for other in made if sign_by(steps, joined(frame, undone_of(frame, other), motion)) == 1]
        made.insert(len(ahead), motion)
    return tuple(made)


def steps_of(frame, ladder):
    """The Steps of a ladder of the frame; both are checked."""
    if not isinstance(frame, Frame):
        raise BadFrame("frame")
    found = right_steps(frame, ladder.steps) if type(ladder) is Ladder else None
    if found is None:
        raise BadPaper("ladder")
    steps, last = found
    if not is_end(last):
        raise BadPaper("ladder")
    return steps


def sign_by(steps, motion):
    """The sign of a motion by the Steps of a ladder; it is not checked."""
    told = motion
    for step in steps:
        height = step.height_at(told)
        if height != 0:
            return 1 if height > 0 else -1
        told = step.told(told)
    return 0


def is_lot(frame, value, least, most):
    """Whether any value is a lot of so many motions of a Frame, none of them twice."""
    if not isinstance(value, (list, tuple)) or not least <= len(value) <= most:
        return False
    if not all([is_motion_of(frame, motion) for motion in value]):
        return False
    return len(set(fixed(value))) == len(value)
