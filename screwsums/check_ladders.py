"""Which papers of ladders.py are right."""

from screwsums.errors import BadFrame
from screwsums.frames import Frame
from screwsums.heights import heights
from screwsums.ladders import Ladder, Stuck
from screwsums.steps import is_end, right_steps


def shows_ladder(frame, value):
    """Whether any value is a right Ladder, or a right Stuck, of the frame."""
    if not isinstance(frame, Frame):
        raise BadFrame("frame")
    if type(value) is not Ladder and type(value) is not Stuck:
        return False
    found = right_steps(frame, value.steps)
    if found is None:
        return False
    _, last = found
    if type(value) is Ladder:
        return is_end(last)
    return not is_end(last) and not heights(last)
