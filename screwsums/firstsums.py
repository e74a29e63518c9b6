"""The first sums of a frame: its motions with the order forgotten in which they are done."""

from math import gcd
from screwsums.checks import common_divisor
from screwsums.errors import BadFrame
from screwsums.frames import Frame
from screwsums.heights import heights
from screwsums.shifts import unit_square

# All primes that divide a number of turns.
PRIMES = (2, 3, 5, 7)


def first_sums(frame):
    """How many integers tell a first sum freely, and the factors by whose rests further ones do."""
    if not isinstance(frame, Frame):
        raise BadFrame("frame")
    free = len(heights(frame))
    rows = _forgotten(frame)
    factors = [1] * (frame.wide + frame.many - 1 - free)
    # Each factor divides the number of turns. For let x_d be (0s, d), and m a motion of turn c. With
    # the order forgotten, all x_d times m times x_(d c) undone are as many of m as there are turns;
    # each of them is a shift. These, added up, are a shift h(m), and h goes from products to sums.
    # If some of m are nothing, that many of h(m) are 0s; so h(m) is, and as many of m as there are
    # turns are nothing.
    for prime in PRIMES:
        powers = _powers(rows, frame.wide + frame.many - 1, gcd(frame.many, prime ** 3))
        factors = [factor * power for factor, power in zip(factors, powers)]
    return (free, tuple([factor for factor in factors if factor > 1]))


def _forgotten(frame):
    """Rows of what is nothing once the order is forgotten: of the places of shifts, and the turns above 0."""
    rows = []
    for c in range(frame.many):
        for d in range(frame.many):
            taken = [int(turn == c) + int(turn == d) - int(turn == frame.turns[c][d]) for turn in range(1, frame.many)]
            rows.append([-place for place in frame.gaps[c][d]] + taken)
    # Each column of a square is the shift to which it takes a step, which is as good as the step.
    for square in frame.squares:
        for column, step in zip(zip(*square), unit_square(frame.wide)):
            rows.append([one - other for one, other in zip(column, step)] + [0] * (frame.many - 1))
    return rows


def _powers(rows, many, modulus):
    """The powers of a prime that are left of the rows, one for each of many places, ascending.

    The modulus, a power of this prime itself, is left where there is nothing else.
    """
    left = [[number % modulus for number in row] for row in rows]
    powers = []
    for _ in range(many):
        divisors = [common_divisor([modulus, *row]) for row in left]
        power = min(divisors)
        powers.append(power)
        if power < modulus:
            left = _cleared(left, left[divisors.index(power)], power, modulus)
    return powers


def _cleared(rows, lead, power, modulus):
    """The rows, less one of them and one place, which have 0s then: the power that divides all is left there."""
    place = [gcd(number, modulus) for number in lead].index(power)
    often = [worth for worth in range(1, modulus) if worth * lead[place] % modulus == power][0]
    further = [often * number for number in lead]
    # The power divides the row that is taken away, too: nothing is left at its other places.
    return [[(number - row[place] // power * other) % modulus for number, other in zip(row, further)] for row in rows]
