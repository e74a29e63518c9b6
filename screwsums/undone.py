"""Which sums can be undone, and by what."""

from screwsums.checks import over
from screwsums.determinants import check_total
from screwsums.minors import cutting_parts, determinant_of, packed_table, sum_of_parts, undoing_parts
from screwsums.packing import add_products, left_over
from screwsums.papers import Denial, Paper, fixed


class Undone(Paper):
    """The sum by which a sum is undone."""

    def __init__(self, other):
        self.word = "undone"
        self.parts = fixed((other,))
        self.other = self.parts[0]


class TwoShifts(Denial):
    """Two shifts of a determinant, the lesser one first."""

    def __init__(self, low, high):
        self.word = "twoshifts"
        self.parts = fixed((low, high))
        self.low, self.high = self.parts


class Nought(Denial):
    """A sum with terms that times a sum is nothing."""

    def __init__(self, other):
        self.word = "nought"
        self.parts = fixed((other,))
        self.other = self.parts[0]


def undo(total):
    """The Undone of the sum by which a sum is undone, or what shows that there is none."""
    check_total(total)
    packing, rows = packed_table(total)
    found = determinant_of(rows, total.by)
    if not found:
        return Nought(sum_of_parts(total, packing, cutting_parts(rows, total.by)))
    low, high = min(found), max(found)
    if low != high:
        return TwoShifts(packing.unpacked(low)[0], packing.unpacked(high)[0])
    # What undoes the one term of the determinant.
    back = {-low: over(found[low], total.by)}
    parts = [_multiplied(part, back, total.by) for part in undoing_parts(rows, total.by)]
    return Undone(sum_of_parts(total, packing, parts))


def _multiplied(one, other, by):
    made = {}
    add_products(made, one, other, 1)
    return left_over(made, by)
