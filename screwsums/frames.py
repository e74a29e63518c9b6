"""Frames: how motions are done one behind another."""

from screwsums.checks import is_row, is_within
from screwsums.errors import BadFrame, BadMotion, BadNumber
from screwsums.faults import fault_of
from screwsums.papers import fixed
from screwsums.shifts import added, negative, no_shift, turned

MOST_POWER = 1000
MOST_MOTIONS = 60


def is_motion_of(frame, value):
    """Whether any value is a motion of a Frame."""
    if not isinstance(value, (list, tuple)) or len(value) != 2:
        return False
    return is_row(value[0], frame.wide) and is_within(value[1], 0, frame.many - 1)


def joined(frame, one, other):
    """One motion of a Frame times another one; neither is checked."""
    square, gap = frame.squares[one[1]], frame.gaps[one[1]][other[1]]
    shift = added(added(one[0], turned(square, other[0])), gap)
    return (shift, frame.turns[one[1]][other[1]])


def undone_of(frame, motion):
    """A motion of a Frame undone; it is not checked."""
    shift, turn = motion
    back = frame.turns[turn].index(0)
    return (negative(turned(frame.squares[back], added(shift, frame.gaps[turn][back]))), back)


class Frame:
    """A frame: its wide, and the products, squares and gaps of its turns."""

    def __init__(self, wide, turns, squares, gaps):
        if fault_of(wide, turns, squares, gaps) is not None:
            raise BadFrame("fault")
        self.wide = wide
        self.many = len(turns)
        self.turns = fixed(turns)
        self.squares = fixed(squares)
        self.gaps = fixed(gaps)
        self.still = (no_shift(wide), 0)

    def __eq__(self, other):
        return (type(self) is type(other) and self.wide == other.wide and self.turns == other.turns
                and self.squares == other.squares and self.gaps == other.gaps)

    def times(self, one, other):
        """The motion that two motions are one behind another."""
        if not is_motion_of(self, one):
            raise BadMotion("one")
        if not is_motion_of(self, other):
            raise BadMotion("other")
        return joined(self, one, other)

    def undone(self, motion):
        """The motion that times this one, both ways round, is still."""
        if not is_motion_of(self, motion):
            raise BadMotion("motion")
        return undone_of(self, motion)

    def power(self, motion, number):
        """So many of a motion one behind another; below 0, of the motion undone."""
        if not is_motion_of(self, motion):
            raise BadMotion("motion")
        if not is_within(number, -MOST_POWER, MOST_POWER):
            raise BadNumber("number")
        done = self.still
        step = motion if number >= 0 else self.undone(motion)
        left = abs(number)
        # step is the motion taken 1, 2, 4, .. times; done takes those that number is made of.
        while left > 0:
            if left % 2 == 1:
                done = joined(self, done, step)
            step = joined(self, step, step)
            left = left // 2
        return done

    def product(self, motions):
        """Motions one behind another, still for none."""
        if not isinstance(motions, (list, tuple)) or len(motions) > MOST_MOTIONS:
            raise BadMotion("motions")
        if not all([is_motion_of(self, motion) for motion in motions]):
            raise BadMotion("motions")
        done = self.still
        for motion in motions:
            done = joined(self, done, motion)
        return done
