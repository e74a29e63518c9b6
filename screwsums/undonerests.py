"""Which sums can be undone by rests, and by what."""

from screwsums.checks import over
from screwsums.errors import TooMany
from screwsums.papers import Denial, Paper, fixed
from screwsums.rests import check_by_rests, rests_of, times_by_rests
from screwsums.sums import terms_of

MOST_MOTIONS = 48


class UndoneRests(Paper):
    """The terms by rests that undo a sum by rests."""

    def __init__(self, terms):
        self.word = "undonerests"
        self.parts = fixed((terms,))
        self.terms = self.parts[0]


class NoughtRests(Denial):
    """Terms by rests that cut a sum by rests."""

    def __init__(self, terms):
        self.word = "noughtrests"
        self.parts = fixed((terms,))
        self.terms = self.parts[0]


def undo_rests(total, rest):
    """The UndoneRests of what undoes a sum by rests, or the NoughtRests of what cuts it."""
    check_undo_rests(total, rest)
    by, terms, motions = total.by, rests_of(total, rest), _motions_by_rests(total.frame, rest)
    many = len(motions)
    places = {motion: at for at, motion in enumerate(motions)}
    # A row tells the numbers of a product with the sum; behind them, those of what stands ahead of
    # the sum there. Each lead has a 1 at its place, where all behind it have 0.
    leads = []
    for at, motion in enumerate(motions):
        row = [0] * many + [int(at == other) for other in range(many)]
        for product, number in times_by_rests(total, rest, [(motion, 1)], terms):
            row[places[product]] = number
        row = _less_leads(row, leads, by)
        left = [place for place in range(many) if row[place] != 0]
        if not left:
            return NoughtRests(_terms_at(motions, row[many:], by))
        worth = over(row[left[0]], by)
        leads.append((left[0], [number * worth % by for number in row]))
    # As many rows as there are motions, none of them made of others, make any numbers.
    goal = [int(motion == total.frame.still) for motion in motions] + [0] * many
    rest_row = _less_leads(goal, leads, by)
    return UndoneRests(_terms_at(motions, [-number for number in rest_row[many:]], by))


def check_undo_rests(total, rest):
    """Raises what undo_rests raises for its arguments."""
    check_by_rests(total, rest)
    many = total.frame.many
    for _ in range(total.frame.wide):
        many = many * rest
    if many > MOST_MOTIONS:
        raise TooMany("motions", MOST_MOTIONS)


def _motions_by_rests(frame, rest):
    """All motions by rests, by turn."""
    shifts = [()]
    for _ in range(frame.wide):
        shifts = [(*shift, place) for shift in shifts for place in range(rest)]
    return [(shift, turn) for turn in range(frame.many) for shift in shifts]


def _less_leads(row, leads, by):
    """The row, less so many of each lead that it has 0 at their places."""
    left = row
    for place, lead in leads:
        often = left[place]
        if often != 0:
            left = [(number - often * other) % by for number, other in zip(left, lead)]
    return left


def _terms_at(motions, numbers, by):
    return terms_of(by, {motion: number for motion, number in zip(motions, numbers)})
