"""The frame of two screws, and its leads into itself."""

from screwsums.checks import is_row
from screwsums.errors import BadNumber
from screwsums.leads import Lead
from screwsums.named import named


def two_screws():
    """The frame of two screws."""
    return named("two screws")


def led_screws(first, second):
    """The lead that takes a to the shift first times a, and b to the shift second times b."""
    if not is_row(first, 3):
        raise BadNumber("first")
    if not is_row(second, 3):
        raise BadNumber("second")
    i, _, k = first
    _, m, n = second
    square = [[2 * i + 1, 0, 0], [0, 2 * m + 1, 0], [0, 0, 2 * (k - n) + 1]]
    screws, a, b = two_screws(), (first, 1), (second, 2)
    return Lead(screws, screws, square, [screws.still, a, b, screws.times(a, b)])
