"""The determinant of a sum: a sum of shifts."""

from screwsums.checks import is_row
from screwsums.errors import BadSum, TooMany
from screwsums.minors import determinant_of, packed_table
from screwsums.sums import Sum, unpacked_sum

# By how many turns there are, less 1.
MOST_TERMS = (200, 200, 60, 24, 10, 7, 5, 4)


def check_total(total):
    """Raises what determinant raises for its argument."""
    if not isinstance(total, Sum):
        raise BadSum("total")
    most = MOST_TERMS[total.frame.many - 1]
    if len(total.terms) > most:
        raise TooMany("terms", most)


def determinant(total):
    """The determinant of a sum, a Sum."""
    check_total(total)
    packing, numbers = _packed_determinant(total)
    return unpacked_sum(total.frame, total.by, packing, numbers)


def _packed_determinant(total):
    packing, rows = packed_table(total)
    return packing, determinant_of(rows, total.by)


def are_in_determinant(total, shifts):
    """Whether any values are shifts that the determinant of a sum has; the sum is not checked."""
    if not all([is_row(shift, total.frame.wide) for shift in shifts]):
        return False
    packing, numbers = _packed_determinant(total)
    return all([packing.holds(shift) and packing.packed((shift, 0)) in numbers for shift in shifts])
