"""Which papers of leads.py are right."""

from screwsums.check_returning import are_barred
from screwsums.checks import are_rows, is_within
from screwsums.errors import BadLead
from screwsums.frames import is_motion_of
from screwsums.leads import Lead, Merged, Unlike, turns_to_still
from screwsums.shifts import squares_joined, unit_square


def shows_merged(lead, value):
    """Whether any value is a right Merged, or a right Unlike, of the lead."""
    if not isinstance(lead, Lead):
        raise BadLead("lead")
    if type(value) is Merged:
        return _is_merged(lead, value.motion)
    if type(value) is not Unlike:
        return False
    return _takes_back(lead, value.back, value.times) and _are_barred_rows(lead, value.rows)


def _is_merged(lead, motion):
    if not is_motion_of(lead.frame, motion) or motion == lead.frame.still:
        return False
    return lead.image(motion) == lead.other.still


def _takes_back(lead, back, times):
    wide = lead.frame.wide
    if not are_rows(back, wide, lead.other.wide) or not is_within(times, 1, None):
        return False
    corners = tuple([tuple([times * place for place in row]) for row in unit_square(wide)])
    return squares_joined(back, lead.square, wide) == corners


def _are_barred_rows(lead, value):
    turns = turns_to_still(lead)
    if not isinstance(value, tuple) or len(value) != len(turns):
        return False
    return all([_is_barred_pair(lead, turn, pair) for turn, pair in zip(turns, value)])


def _is_barred_pair(lead, turn, pair):
    if not isinstance(pair, tuple) or len(pair) != 2:
        return False
    return are_barred(lead.square, lead.motions[turn][0], pair[0], pair[1])
