"""Which papers of undone.py are right."""

from screwsums.determinants import are_in_determinant, check_total
from screwsums.sums import fits, is_no_product, is_still_product
from screwsums.undone import Nought, TwoShifts, Undone


def shows_undo(total, value):
    """Whether any value is a right Undone, a right TwoShifts or a right Nought of the sum."""
    check_total(total)
    if type(value) is Undone:
        # What undoes a sum from one side does so from both.
        return fits(total, value.other) and is_still_product(value.other, total)
    if type(value) is Nought:
        return fits(total, value.other) and len(value.other.terms) > 0 and is_no_product(value.other, total)
    if type(value) is TwoShifts:
        return are_in_determinant(total, [value.low, value.high]) and value.low < value.high
    return False
