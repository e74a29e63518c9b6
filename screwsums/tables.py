"""The table of a sum: what stands ahead of each turn behind each turn."""

from screwsums.errors import BadSum
from screwsums.sums import Sum, ahead_of, behind_turn, sum_of


def table_of(total):
    """The table of a sum: a row for each turn, and in it a sum of shifts for each turn."""
    if not isinstance(total, Sum):
        raise BadSum("total")
    return tuple([_row_of(total, turn) for turn in range(total.frame.many)])


def _row_of(total, turn):
    frame = total.frame
    behind = behind_turn(frame, turn, total.terms)
    columns = [{motion: number for motion, number in ahead_of(behind, at)} for at in range(frame.many)]
    return tuple([sum_of(frame, total.by, numbers) for numbers in columns])
