"""Products of two lots of motions, and how often each is met."""

from screwsums.errors import BadFrame, BadLot
from screwsums.frames import Frame, joined, undone_of
from screwsums.ladders import is_lot, sign_by, steps_of
from screwsums.motions import by_turn

MOST_MOTIONS = 40


def meets(frame, one, other):
    """Each product of a motion of one and a motion of other, by turn, and how often it is met."""
    return tuple([(motion, len(pairs)) for motion, pairs in _pairs_of_products(frame, one, other)])


def met_once(frame, one, other):
    """Each motion that is met once, by turn, with its pair."""
    return tuple([(motion, *pairs[0]) for motion, pairs in _pairs_of_products(frame, one, other) if len(pairs) == 1])


def ends(frame, ladder, one, other):
    """The pairs of the first and of the last product, as the ladder has motions one ahead of the other."""
    steps = steps_of(frame, ladder)
    _check_lots(frame, one, other)
    return (_end(frame, steps, one, other, 1), _end(frame, steps, one, other, -1))


def _check_lots(frame, one, other):
    if not is_lot(frame, one, 1, MOST_MOTIONS):
        raise BadLot("one")
    if not is_lot(frame, other, 1, MOST_MOTIONS):
        raise BadLot("other")


def _pairs_of_products(frame, one, other):
    """Each product by turn, with the pairs of which it comes."""
    if not isinstance(frame, Frame):
        raise BadFrame("frame")
    _check_lots(frame, one, other)
    met = {}
    for i, first in enumerate(one):
        for j, second in enumerate(other):
            met.setdefault(joined(frame, first, second), []).append((i, j))
    return [(motion, met[motion]) for motion in by_turn(frame, list(met))]


def _end(frame, steps, one, other, sign):
    """The pair of the first product, or, for the sign -1, of the last one."""
    # What stands behind in a product decides first: the first product of all is among those with
    # the first motion of other, whatever motions of one stand ahead.
    j = _outermost(frame, steps, other, sign)
    return (_outermost(frame, steps, [joined(frame, motion, other[j]) for motion in one], sign), j)


def _outermost(frame, steps, motions, sign):
    """The number of the motion that is ahead of all others, or, for the sign -1, behind them."""
    found = 0
    for at, motion in enumerate(motions):
        if sign_by(steps, joined(frame, undone_of(frame, motion), motions[found])) == sign:
            found = at
    return found
