"""Which papers of cut.py are right."""

from screwsums.cut import Clear, Cut
from screwsums.determinants import are_in_determinant, check_total
from screwsums.sums import fits, is_no_product


def shows_cut(total, value):
    """Whether any value is a right Cut, or a right Clear, of the sum."""
    check_total(total)
    if type(value) is Cut:
        return _fits_with_terms(total, value.other) and is_no_product(value.other, total)
    return type(value) is Clear and are_in_determinant(total, [value.shift])


def shows_cut_right(total, value):
    """Whether any value is a right Cut from the right, or a right Clear, of the sum."""
    check_total(total)
    if type(value) is Cut:
        return _fits_with_terms(total, value.other) and is_no_product(total, value.other)
    return type(value) is Clear and are_in_determinant(total, [value.shift])


def _fits_with_terms(total, value):
    return fits(total, value) and len(value.terms) > 0
