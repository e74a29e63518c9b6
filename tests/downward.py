"""Frames for the tests of heights, and plain ways down from them: by the document's words, with fractions."""

import itertools
from fractions import Fraction
from math import gcd

from screwsums.frames import Frame
from tests.lawful import cyclic, flat, lawful_frames, matrix_product, moved, taken
from tests.plain import BIG, FRAMES


def reshaped(told, square, back):
    """The same frame with its shifts told otherwise: square and back make the unit square."""
    wide, turns, squares, gaps = told
    further = [matrix_product(matrix_product(square, own), back) for own in squares]
    return wide, turns, further, [[taken(square, gap) for gap in row] for row in gaps]


SHEAR = [[1, 5], [0, 1]], [[1, -5], [0, 1]]
STEEP = [[2, 5], [1, 3]], [[3, -5], [-1, 2]]
MIXED = [[1, 2, -3], [0, 1, 4], [0, 0, 1]], [[1, -2, 11], [0, 1, -4], [0, 0, 1]]
TURNED = [[0, 1, 0], [0, 0, 1], [1, 0, 0]], [[0, 0, 1], [1, 0, 0], [0, 1, 0]]
FAR = [[1, 0, 0], [BIG, 1, 0], [3, -BIG, 1]], [[1, 0, 0], [-BIG, 1, 0], [-BIG * BIG - 3, BIG, 1]]


def downward_frames():
    told = lawful_frames()
    # A mirror and turns that exchange the places: their rows are not at one place alone.
    told["exchange"] = flat(2, [[[0, 1], [1, 0]]])
    told["three places"] = flat(3, [[[0, 1, 0], [0, 0, 1], [1, 0, 0]]])
    told["six places"] = flat(3, [[[0, 1, 0], [0, 0, 1], [1, 0, 0]], [[0, 1, 0], [1, 0, 0], [0, 0, 1]]])
    told["half exchange"] = (2, [[0, 1], [1, 0]], [[[1, 0], [0, 1]], [[0, 1], [1, 0]]],
                             [[[0, 0], [0, 0]], [[0, 0], [1, 1]]])
    for name in ("bottle", "exchange", "square", "half exchange"):
        for at, (square, back) in enumerate((SHEAR, STEEP)):
            told[f"{name} told otherwise {at}"] = reshaped(told[name], square, back)
    for name in ("two screws", "third screw", "fourth screw", "mirrors", "three places", "cyclic 4 3 5"):
        for at, (square, back) in enumerate((MIXED, TURNED, FAR)):
            told[f"{name} told otherwise {at}"] = reshaped(told[name], square, back)
    for name in ("bottle", "third screw", "fourth screw", "half exchange", "six places"):
        wide, many = told[name][0], len(told[name][1])
        starts = [[0] * wide] + [[BIG - c * at for at in range(wide)] for c in range(1, many)]
        told[f"{name} from afar"] = moved(told[name], starts)
    return {name: Frame(*parts) for name, parts in told.items()} | FRAMES


def adds_up(one, other):
    return sum(left * right for left, right in zip(one, other, strict=True))


def are_ints(value, many):
    return isinstance(value, (list, tuple)) and len(value) == many and all(type(part) is int for part in value)


def is_told_row(frame, row):
    if not are_ints(row, frame.wide):
        return False
    units = [tuple(int(at == place) for at in range(frame.wide)) for place in range(frame.wide)]
    return all(adds_up(row, taken(square, unit)) == adds_up(row, unit) for square in frame.squares for unit in units)


def told_height(frame, row, motion):
    return frame.many * adds_up(row, motion[0]) + sum(adds_up(row, gap) for gap in frame.gaps[motion[1]])


def is_told_basis(row, shifts):
    """Whether shifts are a basis of all that a row, not 0s, makes 0: the common divisor of their minors is 1."""
    wide = len(row)
    if not isinstance(shifts, (list, tuple)) or len(shifts) != wide - 1:
        return False
    if not all(are_ints(shift, wide) and adds_up(row, shift) == 0 for shift in shifts):
        return False
    if wide == 3:
        (a, b, c), (d, e, f) = shifts
        return gcd(a * e - b * d, a * f - c * d, b * f - c * e) == 1
    return wide == 1 or gcd(*shifts[0]) == 1


def turns_of_height_0(frame, row):
    return [turn for turn in range(frame.many)
            if told_height(frame, row, (frame.still[0], turn)) % (frame.many * gcd(*row)) == 0]


def is_told_motion(frame, value):
    return (isinstance(value, (list, tuple)) and len(value) == 2 and are_ints(value[0], frame.wide)
            and type(value[1]) is int and 0 <= value[1] < frame.many)


def told_counts(shifts, shift):
    """How often each shift of a basis is taken, by fractions."""
    if not shifts:
        return ()
    if len(shifts) == 1:
        return tuple(Fraction(part, own) for part, own in zip(shift, shifts[0]) if own)[:1]
    for i, j in itertools.combinations(range(3), 2):
        (a, b), (c, d) = [(one[i], one[j]) for one in shifts]
        if a * d != b * c:
            x, y = shift[i], shift[j]
            return Fraction(x * d - y * c, a * d - b * c), Fraction(a * y - b * x, a * d - b * c)
    raise AssertionError("no basis")


def told_in_level(shifts, motions, motion):
    turns = [turn for _, turn in motions]
    at = turns.index(motion[1])
    counts = told_counts(shifts, [one - other for one, other in zip(motion[0], motions[at][0])])
    assert all(count.denominator == 1 for count in counts)
    return tuple(int(count) for count in counts), at


def told_level(frame, shifts, motions):
    """The frame of a level, told by what its motions are, one behind another."""
    products = [[told_in_level(shifts, motions, frame.times(one, other)) for other in motions] for one in motions]
    squares = []
    for at, motion in enumerate(motions):
        columns = []
        for shift in shifts:
            done = frame.product([motion, (shift, 0), frame.undone(motion)])
            columns.append(told_in_level(shifts, motions, done)[0])
        squares.append([list(row) for row in zip(*columns)])
    return Frame(len(shifts), [[turn for _, turn in row] for row in products], squares,
                 [[gap for gap, _ in row] for row in products])


def told_step(frame, step):
    """The frame to which any value leads from a frame as a step, None if it does not."""
    if not isinstance(step, (list, tuple)) or len(step) != 3:
        return None
    row, shifts, motions = step
    if not is_told_row(frame, row) or not any(row) or not is_told_basis(row, shifts):
        return None
    if not isinstance(motions, (list, tuple)) or not all(is_told_motion(frame, motion) for motion in motions):
        return None
    motions = [(tuple(shift), turn) for shift, turn in motions]
    if [turn for _, turn in motions] != turns_of_height_0(frame, row) or motions[0] != frame.still:
        return None
    if any(told_height(frame, row, motion) for motion in motions):
        return None
    return told_level(frame, [tuple(shift) for shift in shifts], motions)


def told_steps(frame, steps):
    """The frame to which any value leads from a frame as steps, None if it does not."""
    if not isinstance(steps, (list, tuple)):
        return None
    for step in steps:
        frame = told_step(frame, step)
        if frame is None:
            return None
    return frame


def free_rows(frame):
    """How many rows a basis of all rows has: what is the same on all squares, added up, has so many places."""
    return sum(square[at][at] for square in frame.squares for at in range(frame.wide)) // frame.many


def is_told_ladder(frame, steps):
    last = told_steps(frame, steps)
    return last is not None and (last.wide, last.many) == (0, 1)


def is_told_stuck(frame, steps):
    last = told_steps(frame, steps)
    return last is not None and (last.wide, last.many) != (0, 1) and free_rows(last) == 0


DOWN = downward_frames()
CYCLIC = {(many, climb): Frame(*cyclic(many, 1, climb)) for many in range(1, 9) for climb in range(-3, 9)}
