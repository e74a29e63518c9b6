"""Frames by their words, and frames beside one another."""

from screwsums.errors import BadFrame, BadNumber, TooMany
from screwsums.faults import MOST_TURNS, MOST_WIDE
from screwsums.frames import Frame
from screwsums.shifts import no_shift, unit_square

# Of each word the wide, and the squares of the turns above 0.
NAMES = {
    "line": (1, ()),
    "plane": (2, ()),
    "space": (3, ()),
    "turned line": (1, (((-1,),),)),
    "half turns": (2, (((-1, 0), (0, -1)),)),
    "bottle": (2, (((1, 0), (0, -1)),)),
    "two screws": (3, (
        ((1, 0, 0), (0, -1, 0), (0, 0, -1)),
        ((-1, 0, 0), (0, 1, 0), (0, 0, -1)),
        ((-1, 0, 0), (0, -1, 0), (0, 0, 1)))),
    "third screw": (3, (
        ((0, -1, 0), (1, -1, 0), (0, 0, 1)),
        ((-1, 1, 0), (-1, 0, 0), (0, 0, 1)))),
    "fourth screw": (3, (
        ((0, -1, 0), (1, 0, 0), (0, 0, 1)),
        ((-1, 0, 0), (0, -1, 0), (0, 0, 1)),
        ((0, 1, 0), (-1, 0, 0), (0, 0, 1)))),
}

# The gaps that are not 0s, each behind the two turns that it is the gap of.
GAPS = {
    "bottle": ((1, 1, (1, 0)),),
    "two screws": (
        (1, 1, (1, 0, 0)), (2, 2, (0, 1, 0)), (3, 3, (0, 0, 1)), (2, 1, (-1, 1, -1)),
        (1, 3, (1, 0, 0)), (2, 3, (-1, 0, -1)), (3, 1, (0, -1, 1)), (3, 2, (0, -1, 0))),
    "third screw": ((1, 2, (0, 0, 1)), (2, 1, (0, 0, 1)), (2, 2, (0, 0, 1))),
    "fourth screw": (
        (1, 3, (0, 0, 1)), (2, 2, (0, 0, 1)), (2, 3, (0, 0, 1)),
        (3, 1, (0, 0, 1)), (3, 2, (0, 0, 1)), (3, 3, (0, 0, 1))),
}


def named(word):
    """The frame of a word."""
    if not isinstance(word, str) or word not in NAMES:
        raise BadNumber("word")
    wide, squares = NAMES[word]
    every = range(len(squares) + 1)
    # Of two screws any two of the turns 1, 2, 3 make the third one, as the bits of their numbers
    # tell. In the other frames each turn is turn 1 done so many times: there numbers are added.
    turns = [[c ^ d if word == "two screws" else (c + d) % len(every) for d in every] for c in every]
    told = {(c, d): gap for c, d, gap in GAPS.get(word, ())}
    gaps = [[told.get((c, d), no_shift(wide)) for d in every] for c in every]
    return Frame(wide, turns, [unit_square(wide), *squares], gaps)


def _squares_beside(one, other):
    # A square has as many rows as it is wide.
    upper = [row + no_shift(len(other)) for row in one]
    lower = [no_shift(len(one)) + row for row in other]
    return upper + lower


def beside(one, other):
    """The frame of both, one beside the other."""
    if not isinstance(one, Frame):
        raise BadFrame("one")
    if not isinstance(other, Frame):
        raise BadFrame("other")
    wide = one.wide + other.wide
    if wide > MOST_WIDE:
        raise TooMany("wide", MOST_WIDE)
    if one.many * other.many > MOST_TURNS:
        raise TooMany("turns", MOST_TURNS)
    pairs = [(c, d) for c in range(one.many) for d in range(other.many)]
    turns = [[one.turns[c][e] * other.many + other.turns[d][f] for e, f in pairs] for c, d in pairs]
    squares = [_squares_beside(one.squares[c], other.squares[d]) for c, d in pairs]
    gaps = [[one.gaps[c][e] + other.gaps[d][f] for e, f in pairs] for c, d in pairs]
    return Frame(wide, turns, squares, gaps)
