"""Leads from a frame to another one, and which of them take unlike motions to one."""

from screwsums.checks import are_rows
from screwsums.errors import BadFrame, BadLead, BadMotion, BadSum, Misfit
from screwsums.frames import Frame, is_motion_of, joined
from screwsums.papers import Denial, Paper, fixed
from screwsums.shifts import added, negative, squares_joined, turned, unit_square
from screwsums.squares import Cleared
from screwsums.sums import Sum, sum_of
from screwsums.wholes import Whole, whole_or_barred


class Merged(Paper):
    """A motion, not still, that goes to still."""

    def __init__(self, motion):
        self.word = "merged"
        self.parts = fixed((motion,))
        self.motion = self.parts[0]


class Unlike(Denial):
    """What takes a lead's square back, so many times, and for each turn that goes to 0 what bars its motions."""

    def __init__(self, back, times, rows):
        self.word = "unlike"
        self.parts = fixed((back, times, rows))
        self.back, self.times, self.rows = self.parts


class Lead:
    """A lead from a frame to another one: the square that takes shifts, and a motion for each turn."""

    def __init__(self, frame, other, square, motions):
        if not isinstance(frame, Frame):
            raise BadFrame("frame")
        if not isinstance(other, Frame):
            raise BadFrame("other")
        if not are_rows(square, other.wide, frame.wide):
            raise BadLead("square")
        if not _are_motions(frame, other, motions):
            raise BadLead("motions")
        if not _is_lawful(frame, other, fixed(square), fixed(motions)):
            raise BadLead("fault")
        self.frame = frame
        self.other = other
        self.square = fixed(square)
        self.motions = fixed(motions)

    def __eq__(self, other):
        return (type(self) is type(other) and self.frame == other.frame and self.other == other.other
                and self.square == other.square and self.motions == other.motions)

    def image(self, motion):
        """Where a motion of the frame goes."""
        if not is_motion_of(self.frame, motion):
            raise BadMotion("motion")
        return _image(self.square, self.motions, motion)

    def image_sum(self, total):
        """Where a Sum of the frame goes."""
        if not isinstance(total, Sum):
            raise BadSum("total")
        if total.frame != self.frame:
            raise Misfit("frame")
        numbers = {}
        for motion, number in total.terms:
            at = _image(self.square, self.motions, motion)
            numbers[at] = numbers.get(at, 0) + number
        return sum_of(self.other, total.by, numbers)

    def after(self, first):
        """The lead that is first, and this one behind it."""
        if not isinstance(first, Lead):
            raise BadLead("first")
        if first.other != self.frame:
            raise Misfit("frames")
        square = squares_joined(self.square, first.square, first.frame.wide)
        return Lead(first.frame, self.other, square, [self.image(motion) for motion in first.motions])


def merged(lead):
    """A Merged of a motion, not still, that goes to still, or, if there is none, an Unlike."""
    if not isinstance(lead, Lead):
        raise BadLead("lead")
    wide = lead.frame.wide
    # What stands behind a row here tells of which rows of the square it is made.
    cleared = Cleared(wide, [[*row, *unit] for row, unit in zip(lead.square, unit_square(lead.other.wide))])
    if cleared.free:
        return Merged((cleared.list_at(0), 0))
    rows = []
    for turn in turns_to_still(lead):
        found = whole_or_barred(wide, lead.square, negative(lead.motions[turn][0]))
        if isinstance(found, Whole):
            return Merged((found.numbers, turn))
        rows.append((found.row, found.modulus))
    sign = 1 if cleared.corner > 0 else -1
    back = [[sign * number for number in row[wide:]] for row in cleared.rows[:wide]]
    return Unlike(back, sign * cleared.corner, rows)


def turns_to_still(lead):
    """The turns above 0 whose motions go to motions of the turn 0."""
    return [turn for turn in range(1, lead.frame.many) if lead.motions[turn][1] == 0]


def _are_motions(frame, other, value):
    if not isinstance(value, (list, tuple)) or len(value) != frame.many:
        return False
    return all([is_motion_of(other, motion) for motion in value]) and fixed(value[0]) == other.still


def _image(square, motions, motion):
    shift, turn = motion
    start, further = motions[turn]
    return (added(turned(square, shift), start), further)


def _is_lawful(frame, other, square, motions):
    every = range(frame.many)
    for c in every:
        ahead = squares_joined(square, frame.squares[c], frame.wide)
        if ahead != squares_joined(other.squares[motions[c][1]], square, frame.wide):
            return False
        for d in every:
            # Where (0s, c) times (0s, d) goes, and what both go to, multiplied.
            if _image(square, motions, (frame.gaps[c][d], frame.turns[c][d])) != joined(other, motions[c], motions[d]):
                return False
    return True
