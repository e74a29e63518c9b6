"""Which papers of undonerests.py are right."""

from screwsums.checks import is_within
from screwsums.frames import is_motion_of
from screwsums.rests import rests_of, times_by_rests
from screwsums.undonerests import NoughtRests, UndoneRests, check_undo_rests


def shows_undo_rests(total, rest, value):
    """Whether any value is a right UndoneRests, or a right NoughtRests, of the sum by rests."""
    check_undo_rests(total, rest)
    if type(value) is not UndoneRests and type(value) is not NoughtRests:
        return False
    if not _are_terms(total, rest, value.terms):
        return False
    own = rests_of(total, rest)
    ahead = times_by_rests(total, rest, value.terms, own)
    if type(value) is NoughtRests:
        return len(value.terms) > 0 and len(ahead) == 0
    still = ((total.frame.still, 1),)
    return ahead == still and times_by_rests(total, rest, own, value.terms) == still


def _are_terms(total, rest, value):
    """Whether any value is terms by rests: by turn, and no motion twice."""
    if not isinstance(value, tuple) or not all([_is_term(total, rest, term) for term in value]):
        return False
    told = [(turn, shift) for (shift, turn), _ in value]
    return all([one < other for one, other in zip(told, told[1:])])


def _is_term(total, rest, value):
    if not isinstance(value, tuple) or len(value) != 2 or not is_motion_of(total.frame, value[0]):
        return False
    shift, _ = value[0]
    return all([is_within(place, 0, rest - 1) for place in shift]) and is_within(value[1], 1, total.by - 1)
