"""Questions about any values, and two small answers about integers."""

from math import gcd
from screwsums.errors import BadNumber, Misfit

PRIMES = (2, 3, 5, 7, 11, 13)


def is_integer(value):
    """Whether any value is an integer."""
    # True and False are integers for Python, but not for this program.
    return isinstance(value, int) and not isinstance(value, bool)


def is_within(value, least, most):
    """Whether any value is an integer from least to most, None being no bound."""
    if not is_integer(value):
        return False
    return (least is None or least <= value) and (most is None or value <= most)


def are_integers(value):
    """Whether any value is a list or tuple of integers, perhaps of none."""
    return isinstance(value, (list, tuple)) and all([is_integer(part) for part in value])


def is_row(value, wide):
    """Whether any value is a list or tuple of wide integers."""
    return are_integers(value) and len(value) == wide


def are_rows(value, many, wide):
    """Whether any value is a list or tuple of many rows of wide integers."""
    if not isinstance(value, (list, tuple)) or len(value) != many:
        return False
    return all([is_row(row, wide) for row in value])


def is_by(value):
    """Whether any value is one of the primes that sums are taken by."""
    return is_integer(value) and value in PRIMES


def common_divisor(values):
    """The greatest integer that divides all values, 0 if none of them is other than 0."""
    if not are_integers(values):
        raise BadNumber("values")
    divisor = 0
    for value in values:
        divisor = gcd(divisor, value)
    return divisor


def over(number, by):
    """The integer from 1 to by - 1 that times number leaves 1 by the prime by."""
    if not is_integer(number):
        raise BadNumber("number")
    if not is_by(by):
        raise BadNumber("by")
    if number % by == 0:
        raise Misfit("number")
    return [worth for worth in range(1, by) if number * worth % by == 1][0]
