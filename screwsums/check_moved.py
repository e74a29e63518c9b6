"""Which papers of moved.py are right."""

from screwsums.check_returning import are_barred
from screwsums.moved import Moved, are_starts, asked_between, check_between, moved_gaps
from screwsums.wholes import Barred


def shows_moved(frame, other, value):
    """Whether any value is a right Moved, or a right Barred, of the two frames."""
    check_between(frame, other)
    if type(value) is Moved:
        return are_starts(frame, value.starts) and moved_gaps(frame, value.starts) == other.gaps
    if type(value) is not Barred:
        return False
    rows, goals = asked_between(frame, other)
    return are_barred(rows, goals, value.row, value.modulus)
