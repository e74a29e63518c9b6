"""Steps: the level of a row, told by a basis of its shifts and by its motions, as a frame again."""

from screwsums.checks import are_rows, common_divisor
from screwsums.frames import Frame, is_motion_of, joined
from screwsums.heights import height_of, height_of_turn, is_row_of
from screwsums.shifts import added, along, negative, no_shift, turned, unit_square
from screwsums.wholes import Whole, whole_or_barred


class Step:
    """A step of a frame: a row of it, and the shifts and the motions by which the level is told.

    Where the shifts are no basis counts is None, and the step is asked for nothing else.
    """

    def __init__(self, frame, row, shifts, motions):
        self.frame = frame
        self.row = row
        self.shifts = shifts
        self.motions = motions
        self.turns = [turn for _, turn in motions]
        self.counts = _counts_of(frame.wide, shifts)

    def height_at(self, motion):
        """The height of a motion of the frame by the row of the step."""
        return height_of(self.frame, self.row, motion)

    def told(self, motion):
        """A motion of height 0 as it is told in the frame of the level."""
        at = self.turns.index(motion[1])
        return (turned(self.counts, added(motion[0], negative(self.motions[at][0]))), at)

    def level_frame(self):
        """The frame of the level."""
        products = [[self.told(joined(self.frame, one, other)) for other in self.motions] for one in self.motions]
        turns = [[turn for _, turn in row] for row in products]
        gaps = [[gap for gap, _ in row] for row in products]
        return Frame(len(self.shifts), turns, [self._square_at(turn) for turn in self.turns], gaps)

    def _square_at(self, turn):
        columns = [turned(self.counts, turned(self.frame.squares[turn], shift)) for shift in self.shifts]
        return tuple(zip(*columns))


def _counts_of(wide, shifts):
    """Rows that tell how often a sum of the shifts takes each of them, None if there are none.

    For as many shifts, each made 0 by a row, as a basis of all shifts made 0 has, there are such
    rows exactly if they are one.
    """
    found = [whole_or_barred(wide, shifts, unit) for unit in unit_square(len(shifts))]
    if not all([isinstance(paper, Whole) for paper in found]):
        return None
    return [paper.numbers for paper in found]


def level_turns(frame, row):
    """The turns that have a motion of height 0 by a row of the frame that is not 0s."""
    divisor = frame.many * common_divisor(row)
    return [turn for turn in range(frame.many) if height_of_turn(frame, row, turn) % divisor == 0]


def right_step(frame, value):
    """The Step that any value tells, None if it is no right step of the frame."""
    if not isinstance(value, tuple) or len(value) != 3:
        return None
    row, shifts, motions = value
    if not is_row_of(frame, row) or row == no_shift(frame.wide):
        return None
    if not are_rows(shifts, frame.wide - 1, frame.wide) or any([along(row, shift) != 0 for shift in shifts]):
        return None
    if not _are_level_motions(frame, row, motions):
        return None
    step = Step(frame, row, shifts, motions)
    return None if step.counts is None else step


def _are_level_motions(frame, row, value):
    if not isinstance(value, tuple) or not all([is_motion_of(frame, motion) for motion in value]):
        return False
    if [turn for _, turn in value] != level_turns(frame, row) or value[0] != frame.still:
        return False
    return all([height_of(frame, row, motion) == 0 for motion in value])


def right_steps(frame, value):
    """The Steps that any value tells, and the frame to which they lead; None if some of them is not right."""
    if not isinstance(value, tuple):
        return None
    steps, below = [], frame
    for part in value:
        step = right_step(below, part)
        if step is None:
            return None
        steps.append(step)
        below = step.level_frame()
    return steps, below


def is_end(frame):
    """Whether a frame has the still motion alone: the end of a ladder."""
    return frame.wide == 0 and frame.many == 1
