"""Which sums are cut, from either side, and by what."""

from screwsums.determinants import check_total
from screwsums.minors import cutting_parts, determinant_of, packed_table, sum_of_parts
from screwsums.papers import Denial, Paper, fixed


class Cut(Paper):
    """A sum with terms by which a sum is cut."""

    def __init__(self, other):
        self.word = "cut"
        self.parts = fixed((other,))
        self.other = self.parts[0]


class Clear(Denial):
    """A shift of a determinant: by nothing is the sum cut."""

    def __init__(self, shift):
        self.word = "clear"
        self.parts = fixed((shift,))
        self.shift = self.parts[0]


def cut(total):
    """A Cut of a sum that times this one is nothing, or the Clear of the least shift of the determinant."""
    check_total(total)
    packing, rows = packed_table(total)
    found = determinant_of(rows, total.by)
    if found:
        return Clear(packing.unpacked(min(found))[0])
    return Cut(sum_of_parts(total, packing, cutting_parts(rows, total.by)))


def cut_right(total):
    """A Cut of a sum such that this one times it is nothing, or the Clear of cut."""
    found = cut(total)
    if not found:
        return found
    # What times the flipped sum is nothing is, flipped, what this sum times is nothing.
    return Cut(cut(total.flipped()).other.flipped())
