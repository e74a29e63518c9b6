"""Shapes of heads: sums of two screws of many motions, some of which can be undone."""

from screwsums.checks import is_by, is_within
from screwsums.errors import BadNumber, BadSum, Misfit, TooMany
from screwsums.screws import two_screws
from screwsums.shifts import negative
from screwsums.sums import Sum, still_sum, sum_of

MOST_TERMS = 40
MOST_POWER = 27


def shaped(heads):
    """The shape of heads."""
    _check_heads(heads)
    # What stands here in words: one is 1, xy the shift x y, and so on; below is 1/z.
    one, below = (0, 0, 0), (0, 0, -1)
    one_x, one_y, one_z = [_ones(heads, [one, shift]) for shift in ((1, 0, 0), (0, 1, 0), (0, 0, 1))]
    one_over_y = _ones(heads, [one, (0, -1, 0)])
    lowered = heads.times(_ones(heads, [below]))
    p = one_x.times(one_y).times(one_z).times(lowered)
    q = one_x.times(_ones(heads, [one, (-1, -1, 0)])).plus(one_over_y.times(one_z)).times(heads)
    z_over_y = _ones(heads, [(0, 0, 1), (0, -1, 1)])
    r = z_over_y.times(_ones(heads, [one, (1, 1, 0)])).plus(one_x.times(one_z)).times(heads)
    around = _ones(heads, [one, one, one, one, (1, 0, 0), (-1, 0, 0), (0, 1, 0), (0, -1, 0)])
    s = around.times(lowered).less(still_sum(heads.frame, heads.by))
    total = p
    for turn, part in ((1, q), (2, r), (3, s)):
        total = total.plus(part.times(Sum(heads.frame, heads.by, [((one, turn), 1)])))
    return total


def contrary(total):
    """The contrary of a sum of motions of two screws."""
    if not isinstance(total, Sum):
        raise BadSum("total")
    if total.frame != two_screws():
        raise Misfit("frame")
    numbers = {}
    for (shift, turn), number in total.terms:
        numbers[(_contrary_shift(shift, turn), turn)] = -number if turn in (1, 2) else number
    return sum_of(total.frame, total.by, numbers)


def _contrary_shift(shift, turn):
    x, y, z = shift
    if turn == 0:
        return (x - 1, -y, -z)
    if turn == 1:
        return (x - 1, y, z)
    if turn == 2:
        return (x, y - 1, z)
    return (x, -y, -z - 1)


def lack(heads):
    """The lack of heads: they fit if it is nothing."""
    _check_heads(heads)
    turned_about = sum_of(heads.frame, heads.by, {(negative(shift), 0): number for (shift, _), number in heads.terms})
    both = heads.times(turned_about)
    one, above, below = [_ones(heads, [(0, 0, place)]) for place in (0, 1, -1)]
    ends = heads.times(below).plus(turned_about.times(above))
    return ends.less(one.scaled(2).less(above).less(below).times(both))


def heads_fit(heads):
    """Whether heads fit: then the contrary of their shape undoes it."""
    return len(lack(heads).terms) == 0


def powers(by, many):
    """The heads (1/z - 1) to the N - 2, N being the product of so many times the prime: they fit."""
    if not is_by(by):
        raise BadNumber("by")
    if not is_within(many, 1, None):
        raise BadNumber("many")
    power = _power_of(by, many)
    step = Sum(two_screws(), by, [(((0, 0, -1), 0), 1), (((0, 0, 0), 0), -1)])
    total = still_sum(two_screws(), by)
    for _ in range(power - 2):
        total = total.times(step)
    return total


def _power_of(by, many):
    power = 1
    for _ in range(many):
        power = power * by
        # Ahead of the end: so many may be told that there would be none.
        if power > MOST_POWER:
            raise TooMany("power", MOST_POWER)
    return power


def _check_heads(heads):
    if not isinstance(heads, Sum) or heads.frame != two_screws():
        raise BadSum("heads")
    if not all([turn == 0 and shift[:2] == (0, 0) for (shift, turn), _ in heads.terms]):
        raise BadSum("heads")
    if len(heads.terms) > MOST_TERMS:
        raise TooMany("terms", MOST_TERMS)


def _ones(heads, shifts):
    """The sum of these shifts, each once, as the heads are told."""
    return Sum(heads.frame, heads.by, [((shift, 0), 1) for shift in shifts])
