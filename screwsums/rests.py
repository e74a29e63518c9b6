"""Terms of sums by rests, and their products."""

from screwsums.checks import is_within
from screwsums.errors import BadNumber, BadSum
from screwsums.frames import joined
from screwsums.sums import Sum, terms_of

LEAST_REST = 2
MOST_REST = 6


def rests_of(total, rest):
    """The terms of a sum by rests."""
    check_by_rests(total, rest)
    return _by_rests(total.by, rest, total.terms)


def check_by_rests(total, rest):
    """Raises what rests_of raises for its arguments."""
    if not isinstance(total, Sum):
        raise BadSum("total")
    if not is_within(rest, LEAST_REST, MOST_REST):
        raise BadNumber("rest")


def _by_rests(by, rest, terms):
    numbers = {}
    for (shift, turn), number in terms:
        at = (tuple([place % rest for place in shift]), turn)
        numbers[at] = numbers.get(at, 0) + number
    return terms_of(by, numbers)


def times_by_rests(total, rest, one, other):
    """Terms by rests times other ones, of the frame and by the prime of a total; nothing is checked."""
    products = [(joined(total.frame, motion, step), number * worth) for motion, number in one for step, worth in other]
    return _by_rests(total.by, rest, products)
