"""Which motions come back to where they began."""

from screwsums.errors import BadFrame, BadMotion
from screwsums.frames import Frame, is_motion_of
from screwsums.papers import Denial, Paper, fixed
from screwsums.shifts import negative
from screwsums.wholes import Whole, whole_or_barred


class Back(Paper):
    """A motion that comes back, and after how many."""

    def __init__(self, motion, times):
        self.word = "back"
        self.parts = fixed((motion, times))
        self.motion, self.times = self.parts


class Away(Denial):
    """For each turn above 0 a row and a modulus that bar its motions from coming back."""

    def __init__(self, rows):
        self.word = "away"
        self.parts = fixed((rows,))
        self.rows = self.parts[0]


def comes_back(frame):
    """A Back of a motion of the first turn that has one which comes back, or an Away."""
    if not isinstance(frame, Frame):
        raise BadFrame("frame")
    barred = []
    for turn in range(1, frame.many):
        rows, goals = rows_of_turn(frame, turn)
        found = whole_or_barred(frame.wide, rows, goals)
        if isinstance(found, Whole):
            return Back((found.numbers, turn), len(_powers_of_turn(frame, turn)))
        barred.append((found.row, found.modulus))
    return Away(barred)


def returns(frame, motion):
    """After how many a motion comes back, 0 if it never does, 1 for still."""
    if not isinstance(frame, Frame):
        raise BadFrame("frame")
    if not is_motion_of(frame, motion):
        raise BadMotion("motion")
    # Ahead of this power all have other turns than 0, and a shift but 0s never comes back.
    many = len(_powers_of_turn(frame, motion[1]))
    return many if frame.power(motion, many) == frame.still else 0


def rows_of_turn(frame, turn):
    """The rows and the goals that the shift of a motion of this turn makes exactly if it comes back."""
    powers = _powers_of_turn(frame, turn)
    every = range(frame.wide)
    rows = tuple([tuple([sum([frame.squares[power][row][place] for power in powers]) for place in every])
                  for row in every])
    shift, _ = frame.power((frame.still[0], turn), len(powers))
    return rows, negative(shift)


def _powers_of_turn(frame, turn):
    """0, the turn, the turn twice and so on, ahead of 0 coming again."""
    powers = [0]
    while frame.turns[powers[-1]][turn] != 0:
        powers.append(frame.turns[powers[-1]][turn])
    return powers
