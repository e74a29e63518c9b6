"""Integers that make the goals of rows, or what bars all integers from it."""

from screwsums.checks import common_divisor, is_row
from screwsums.errors import BadNumber
from screwsums.papers import Denial, Paper, fixed
from screwsums.shifts import along, unit_square
from screwsums.squares import Cleared, are_even_rows


class Whole(Paper):
    """Integers that make the goals."""

    def __init__(self, numbers):
        self.word = "whole"
        self.parts = fixed((numbers,))
        self.numbers = self.parts[0]


class Barred(Denial):
    """An integer for each row, and a modulus that divides all that the rows so add up to, and not the goal."""

    def __init__(self, row, modulus):
        self.word = "barred"
        self.parts = fixed((row, modulus))
        self.row, self.modulus = self.parts


def whole(rows, goals):
    """A Whole of integers that make the goals of the rows, or a Barred."""
    check_goals(rows, goals)
    return whole_or_barred(len(rows[0]), rows, goals)


def check_goals(rows, goals):
    """Raises what whole raises for its arguments."""
    if not are_even_rows(rows):
        raise BadNumber("rows")
    if not is_row(goals, len(rows)):
        raise BadNumber("goals")


def whole_or_barred(wide, rows, goals):
    """As whole, for rows of wide integers, perhaps no rows; neither they nor the goals are checked."""
    # Integers make the goals exactly if they, with 1 behind them, make 0s of the rows with the
    # negative goals behind them. What stands further behind tells of which rows a row is made.
    asked = [[*row, -goal, *unit] for row, goal, unit in zip(rows, goals, unit_square(len(rows)))]
    cleared = Cleared(wide + 1, asked)
    if wide in cleared.places:
        return _barred_at_once(cleared.rows[cleared.places.index(wide)][wide + 1:], goals)
    last, many = cleared.stairs[-1], len(cleared.free)
    if last[many - 1] != cleared.modulus:
        return _barred_by(last[many:], cleared.modulus)
    return Whole(cleared.list_at(many - 1)[:wide])


def _barred_at_once(row, goals):
    """The Barred of a row by which the rows add up to 0s, and the goals do not."""
    divisor = common_divisor(row)
    shorter = [number // divisor for number in row]
    modulus = 2
    while along(shorter, goals) % modulus == 0:
        modulus = modulus + 1
    return Barred(shorter, modulus)


def _barred_by(row, modulus):
    divisor = common_divisor([modulus, *row])
    return Barred([number // divisor for number in row], modulus // divisor)
