"""Rows of integers: added up, and the lists of integers that make 0s of them."""

from screwsums.checks import are_integers, are_rows, is_within
from screwsums.errors import BadNumber
from screwsums.shifts import along, combined

MOST_ROWS = 48
MOST_PLACES = 12


def are_even_rows(value):
    """Whether any value is a list of 1 to 48 rows of as many integers each, 0 to 12."""
    if not isinstance(value, (list, tuple)) or not 1 <= len(value) <= MOST_ROWS:
        return False
    if not isinstance(value[0], (list, tuple)) or len(value[0]) > MOST_PLACES:
        return False
    return are_rows(value, len(value), len(value[0]))


def row_times(row, rows):
    """The rows, each times its integer of row, added up place by place."""
    if not are_integers(row) or not 1 <= len(row) <= MOST_ROWS:
        raise BadNumber("row")
    if not are_even_rows(rows) or len(rows) != len(row):
        raise BadNumber("rows")
    return combined(row, rows)


def vanishing(wide, rows):
    """Lists that make 0s of the rows; each list that does so is in one way alone a sum of them."""
    if not is_within(wide, 0, MOST_PLACES):
        raise BadNumber("wide")
    if not isinstance(rows, (list, tuple)) or len(rows) > MOST_ROWS:
        raise BadNumber("rows")
    if not are_rows(rows, len(rows), wide):
        raise BadNumber("rows")
    cleared = Cleared(wide, rows)
    return tuple([cleared.list_at(at) for at in range(len(cleared.free))])


class Cleared:
    """Told rows, multiplied and added to one another, to read off which lists make 0s of them.

    The first wide integers of a row stand at its places; what stands behind is carried along.
    Row i has the corner at places[i] and 0 at the others of places; the rows behind those have 0
    at each place. The places without a corner are free.

    A list makes 0s exactly if the corner divides what its integers at the free places make of
    each row; these then tell the others. The modulus, the corner without its sign, and 0s behind
    and ahead of it ask nothing of a list: so rows may be added up with such. The stairs are what
    comes so, one for each free place.

    Plainly exchanging rows or places can double the length of the integers with each of them.
    Here they stay about as long as determinants of the told ones.
    """

    def __init__(self, wide, rows):
        self.wide = wide
        self.rows = [list(row) for row in rows]
        self.corner = 1
        self.places = []
        for place in range(wide):
            self._clear(place)
        self.free = [place for place in range(wide) if place not in self.places]
        self.modulus = abs(self.corner)
        upper = self.rows[:len(self.places)]
        told = [[row[place] for place in self.free] + row[wide:] for row in upper]
        self.stairs = _stairs(told, self.modulus, len(self.free))

    def _clear(self, place):
        top = len(self.places)
        below = [at for at in range(top, len(self.rows)) if self.rows[at][place] != 0]
        if not below:
            return
        lead = self.rows[below[0]]
        self.rows[below[0]] = self.rows[top]
        crossed = [_crossed(row, lead, place, self.corner) for row in self.rows]
        crossed[top] = lead
        self.rows = crossed
        self.corner = lead[place]
        self.places.append(place)

    def list_at(self, at):
        """The list, by number, of those by which all lists that make 0s of the rows are told.

        Behind the free place of this number it has 0 at each free place.
        """
        made = [0] * self.wide
        for place, number in zip(self.free, _opposite(self.stairs, self.modulus, at)):
            made[place] = number
        # A row has 0 at the places that this loop has filled for the rows ahead of it.
        for place, row in zip(self.places, self.rows):
            made[place] = -along(made, row) // self.corner
        return tuple(made)


def _crossed(row, lead, place, corner):
    # All integers here are determinants, of which the corner so far divides each one.
    return [(lead[place] * left - row[place] * right) // corner for left, right in zip(row, lead)]


def _stairs(rows, modulus, wide):
    """A stair for each of wide places: rows with 0s ahead of this place, that divide the modulus at it.

    What sums of them have at the places is what sums of the rows have, and of rows with the
    modulus at one place and 0 at the others.
    """
    length = len(rows[0]) if rows else wide
    left = [[number % modulus for number in row] for row in rows]
    stairs = []
    for place in range(wide):
        stair = [modulus * int(at == place) for at in range(length)]
        rest = []
        for row in left:
            stair, further = _met(stair, row, place, modulus)
            rest.append(further)
        left = rest
        stairs.append(stair)
    # With less above each stair's own integer than this integer, what _opposite makes stays short.
    for place in reversed(range(wide)):
        for below in range(place + 1, wide):
            often = stairs[place][below] // stairs[below][below]
            stairs[place] = [one - often * other for one, other in zip(stairs[place], stairs[below])]
    return stairs


def _met(stair, row, place, modulus):
    """Two rows of which the same sums come as of these two; the second one has 0 at the place."""
    if row[place] == 0:
        return stair, row
    divisor, one, other = _divisor_made(stair[place], row[place])
    high, low = stair[place] // divisor, row[place] // divisor
    upper = [(one * left + other * right) % modulus for left, right in zip(stair, row)]
    lower = [(low * left - high * right) % modulus for left, right in zip(stair, row)]
    return upper, lower


def _divisor_made(one, other):
    """The common divisor of two integers above 0, and how often each of them is in it."""
    high, high_one, high_other = one, 1, 0
    low, low_one, low_other = other, 0, 1
    while low != 0:
        often = high // low
        high, low = low, high - often * low
        high_one, low_one = low_one, high_one - often * low_one
        high_other, low_other = low_other, high_other - often * low_other
    return high, high_one, high_other


def _opposite(stairs, modulus, at):
    """The integers that make the modulus of the stair at this place, and 0 of the others."""
    made = [0] * len(stairs)
    for place in reversed(range(len(stairs))):
        goal = modulus * int(place == at)
        made[place] = (goal - along(made, stairs[place])) // stairs[place][place]
    return made
