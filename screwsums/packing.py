"""Motions told as one integer each, and numbers of such motions multiplied; nothing is checked here."""


class Packing:
    """Motions of this wide, whose shifts have no integer beyond the bound, told as one integer each.

    Such integers, added, tell the shifts and the turns added, as long as no shift goes beyond the
    bound; and they stand as the motions do by turn.
    """

    def __init__(self, wide, bound):
        self.wide = wide
        self.bound = bound
        self.base = 2 * bound + 1

    def packed(self, motion):
        """The integer that tells a motion: its turn, and behind it the places of its shift."""
        shift, number = motion
        for place in shift:
            number = number * self.base + place
        return number

    def holds(self, shift):
        """Whether no integer of a shift is beyond the bound."""
        return max([abs(place) for place in shift], default=0) <= self.bound

    def unpacked(self, number):
        """The motion that an integer tells."""
        places = []
        for _ in range(self.wide):
            number, above = divmod(number + self.bound, self.base)
            places.append(above - self.bound)
        return (tuple(places[::-1]), number)


def farthest(terms):
    """The greatest integer in the shifts of terms, without its sign."""
    return max([abs(place) for (shift, _), _ in terms for place in shift], default=0)


def packed_terms(packing, terms):
    """The numbers of terms by what their motions are packed as."""
    return {packing.packed(motion): number for motion, number in terms}


def add_products(made, one, other, often):
    """Adds to made, so many times, the products of the numbers of one and of other.

    All three have numbers by packed motions.
    """
    for start, number in one.items():
        for step, worth in other.items():
            at = start + step
            made[at] = made.get(at, 0) + often * number * worth


def left_over(numbers, by):
    """The numbers by a prime, those that are 0 left out."""
    return {at: number % by for at, number in numbers.items() if number % by != 0}
