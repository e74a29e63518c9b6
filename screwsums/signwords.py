"""Words that bring motions to still, whatever their signs."""

from screwsums.checks import is_row, is_within
from screwsums.errors import BadFrame, BadLot, BadNumber
from screwsums.frames import Frame, joined, undone_of
from screwsums.ladders import is_lot
from screwsums.papers import Denial, Paper, fixed

MOST_MOTIONS = 2
MOST_TRIED = 8
MOST_SHOWN = 60


class Words(Paper):
    """A word for each choice of signs that brings the motions, so signed, to still."""

    def __init__(self, rows):
        self.word = "words"
        self.parts = fixed((rows,))
        self.rows = self.parts[0]


class Free(Denial):
    """A choice of signs for which no word does."""

    def __init__(self, signs):
        self.word = "free"
        self.parts = fixed((signs,))
        self.signs = self.parts[0]


def sign_words(frame, motions, most):
    """The Words of the first word for each choice of signs, or the Free of the first choice that has none."""
    _check_asked(frame, motions, most)
    rows = []
    for signs in _choices(len(motions)):
        found = _first_word(frame, _signed(frame, motions, signs), most)
        if found is None:
            return Free(signs)
        rows.append(found)
    return Words(rows)


def shows_sign_words(frame, motions, most, value):
    """Whether any value is a right Words, or a right Free, of the motions."""
    _check_asked(frame, motions, most)
    if type(value) is Words:
        return _are_words(frame, motions, value.rows)
    if type(value) is not Free or not is_row(value.signs, len(motions)):
        return False
    if value.signs not in _choices(len(motions)):
        return False
    return _first_word(frame, _signed(frame, motions, value.signs), most) is None


def _check_asked(frame, motions, most):
    if not isinstance(frame, Frame):
        raise BadFrame("frame")
    if not is_lot(frame, motions, 1, MOST_MOTIONS) or frame.still in fixed(motions):
        raise BadLot("motions")
    if not is_within(most, 1, MOST_TRIED):
        raise BadNumber("most")


def _choices(many):
    """All choices of signs for so many motions, ascending."""
    choices = [()]
    for _ in range(many):
        choices = [(*choice, sign) for choice in choices for sign in (-1, 1)]
    return choices


def _signed(frame, motions, signs):
    return [motion if sign == 1 else undone_of(frame, motion) for motion, sign in zip(motions, signs)]


def _first_word(frame, motions, most):
    """The first word of 1 to most indexes that brings the motions to still, None if there is none."""
    # The words of one length, as tuples compare, each with what it brings the motions to.
    told = [((), frame.still)]
    for _ in range(most):
        told = [((*word, at), joined(frame, done, motion)) for word, done in told for at, motion in enumerate(motions)]
        found = [word for word, done in told if done == frame.still]
        if found:
            return found[0]
    return None


def _are_words(frame, motions, rows):
    choices = _choices(len(motions))
    if not isinstance(rows, tuple) or len(rows) != len(choices):
        return False
    return all([_is_word(frame, _signed(frame, motions, signs), row) for signs, row in zip(choices, rows)])


def _is_word(frame, motions, value):
    if not isinstance(value, tuple) or not 1 <= len(value) <= MOST_SHOWN:
        return False
    if not all([is_within(at, 0, len(motions) - 1) for at in value]):
        return False
    return frame.product([motions[at] for at in value]) == frame.still
