"""Sums of motions with numbers by a prime, and what is done with them."""

from screwsums.checks import is_by, is_integer, is_within
from screwsums.errors import BadFrame, BadNumber, BadSum, Misfit, TooMany
from screwsums.frames import Frame, is_motion_of, joined, undone_of
from screwsums.packing import Packing, add_products, farthest, left_over, packed_terms
from screwsums.papers import fixed

MOST_TOLD = 1000
MOST_PRODUCTS = 250000
MOST_MADE = 5000


class Sum:
    """A sum of a frame by a prime: motions, each with its number."""

    def __init__(self, frame, by, terms):
        if not isinstance(frame, Frame):
            raise BadFrame("frame")
        if not is_by(by):
            raise BadNumber("by")
        if not _are_terms(frame, terms):
            raise BadSum("terms")
        numbers = {}
        for motion, number in terms:
            at = fixed(motion)
            numbers[at] = numbers.get(at, 0) + number
        self.frame = frame
        self.by = by
        self.terms = terms_of(by, numbers)

    def __eq__(self, other):
        return (type(self) is type(other) and self.frame == other.frame and self.by == other.by
                and self.terms == other.terms)

    def plus(self, other):
        """Both sums added, motion by motion."""
        _check_other(self, other)
        return _with_more(self, other, 1)

    def less(self, other):
        """This sum less the other one, motion by motion."""
        _check_other(self, other)
        return _with_more(self, other, -1)

    def times(self, other):
        """This sum times the other one: this one stands ahead."""
        _check_other(self, other)
        if len(self.terms) * len(other.terms) > MOST_PRODUCTS:
            raise TooMany("products", MOST_PRODUCTS)
        packing, numbers = packed_product(self, other)
        if len(numbers) > MOST_MADE:
            raise TooMany("terms", MOST_MADE)
        return unpacked_sum(self.frame, self.by, packing, numbers)

    def scaled(self, number):
        """The sum with each of its numbers times an integer."""
        if not is_integer(number):
            raise BadNumber("number")
        return sum_of(self.frame, self.by, {motion: own * number for motion, own in self.terms})

    def flipped(self):
        """The sum with each of its motions undone."""
        return sum_of(self.frame, self.by, {undone_of(self.frame, motion): number for motion, number in self.terms})

    def at_turn(self, turn):
        """What stands ahead of a turn in the sum: a sum of shifts."""
        if not is_within(turn, 0, self.frame.many - 1):
            raise BadNumber("turn")
        return sum_of(self.frame, self.by, {motion: number for motion, number in ahead_of(self.terms, turn)})


def still_sum(frame, by):
    """The still motion with the number 1."""
    if not isinstance(frame, Frame):
        raise BadFrame("frame")
    if not is_by(by):
        raise BadNumber("by")
    return Sum(frame, by, [(frame.still, 1)])


def _are_terms(frame, value):
    if not isinstance(value, (list, tuple)) or len(value) > MOST_TOLD:
        return False
    return all([_is_term(frame, term) for term in value])


def _is_term(frame, value):
    if not isinstance(value, (list, tuple)) or len(value) != 2:
        return False
    return is_motion_of(frame, value[0]) and is_integer(value[1])


def terms_of(by, numbers):
    """The terms, by turn, that the numbers of motions are by a prime."""
    left = left_over(numbers, by)
    by_turn = sorted(left, key=lambda motion: (motion[1], motion[0]))
    return tuple([(motion, left[motion]) for motion in by_turn])


def _check_other(one, other):
    if not isinstance(other, Sum):
        raise BadSum("other")
    if one.frame != other.frame:
        raise Misfit("frame")
    if one.by != other.by:
        raise Misfit("by")


def _with_more(one, other, often):
    """One sum, and the other one so many times."""
    numbers = {motion: number for motion, number in one.terms}
    for motion, number in other.terms:
        numbers[motion] = numbers.get(motion, 0) + often * number
    return sum_of(one.frame, one.by, numbers)


def sum_of(frame, by, numbers):
    """The Sum of the numbers of motions; neither they nor how many they are is checked."""
    # More terms may come of other sums than may be told.
    made = Sum(frame, by, ())
    made.terms = terms_of(by, numbers)
    return made


def unpacked_sum(frame, by, packing, numbers):
    """The Sum of the numbers of packed motions, each of them from 1 to the prime less 1."""
    made = Sum(frame, by, ())
    made.terms = tuple([(packing.unpacked(at), numbers[at]) for at in sorted(numbers)])
    return made


def ahead_of(terms, turn):
    """Those of the terms that have the turn, with the turn 0 in its place."""
    return [((shift, 0), number) for (shift, at), number in terms if at == turn]


def behind_turn(frame, turn, terms):
    """The motion of the turn and 0s, times each motion of the terms, with its number."""
    start = (frame.still[0], turn)
    return [(joined(frame, start, motion), number) for motion, number in terms]


def packed_product(one, other):
    """A packing, and the numbers by it of one sum times another one, however many there are."""
    frame = one.frame
    # (v, c) is (v, 0) times (0s, c).
    behind = {turn: behind_turn(frame, turn, other.terms) for turn in sorted(set([at for (_, at), _ in one.terms]))}
    bound = farthest(one.terms) + max([farthest(terms) for terms in behind.values()], default=0)
    packing = Packing(frame.wide, bound)
    made = {}
    for turn, terms in behind.items():
        ahead = packed_terms(packing, ahead_of(one.terms, turn))
        add_products(made, ahead, packed_terms(packing, terms), 1)
    return packing, left_over(made, one.by)


def fits(total, value):
    """Whether any value is a Sum of the frame and the prime of a total."""
    return isinstance(value, Sum) and value.frame == total.frame and value.by == total.by


def is_still_product(one, other):
    """Whether one sum times another one is the still motion once, however many terms they have."""
    packing, numbers = packed_product(one, other)
    return numbers == {packing.packed(one.frame.still): 1}


def is_no_product(one, other):
    """Whether one sum times another one is nothing, however many terms they have."""
    _, numbers = packed_product(one, other)
    return not numbers
