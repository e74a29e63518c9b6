"""Lawful leads for the tests, and what they do by the document's words."""

import random

from screwsums.frames import Frame
from screwsums.heights import heights
from screwsums.leads import Lead
from screwsums.moved import moved
from screwsums.named import beside, named
from tests.downward import DOWN, FAR, MIXED, STEEP, is_told_motion, reshaped, told_height
from tests.lawful import matrix_product, taken, unit
from tests.plain import BIG, motion_of
from tests.test_moved import starts_of, told

LINE, PLANE, SPACE, FLAT = named("line"), named("plane"), named("space"), named("turned line")
SCREWS, POINT = named("two screws"), DOWN["point"]
STAIR = Frame(1, [[0, 1], [1, 0]], [[[1]], [[1]]], [[[0], [0]], [[0], [1]]])
STILL_3 = (0, 0, 0)


def still_turns(frame):
    """0s at each turn."""
    return [(frame.still[0], turn) for turn in range(frame.many)]


def conjugated(frame, motion):
    """What takes each motion to it, ahead of it another motion, and behind it this motion undone."""
    return frame, frame, frame.squares[motion[1]], [
        frame.product([motion, own, frame.undone(motion)]) for own in still_turns(frame)]


def screws_led(first, second):
    """The lead of two screws into itself that takes a to the shift first times a, b to second times b."""
    (i, j, k), (r, m, n) = first, second
    square = [[2 * i + 1, 0, 0], [0, 2 * m + 1, 0], [0, 0, 2 * (k - n) + 1]]
    a, b = (tuple(first), 1), (tuple(second), 2)
    return SCREWS, SCREWS, square, [SCREWS.still, a, b, SCREWS.times(a, b)]


def of_one_frame():
    for name, frame in DOWN.items():
        yield f"{name} as it is", (frame, frame, unit(frame.wide), still_turns(frame))
        starts = starts_of(frame, random.choice((3, BIG)))
        away = [(tuple(-place for place in start), turn) for turn, start in enumerate(starts)]
        yield f"{name} to what is moved", (frame, moved(frame, starts), unit(frame.wide), away)
        yield f"{name} by a motion", conjugated(frame, motion_of(frame, random.choice((3, BIG))))
        turns = Frame(0, frame.turns, [[]] * frame.many, [[[]] * frame.many] * frame.many)
        yield f"{name} to its turns", (frame, turns, (), [((), turn) for turn in range(frame.many)])
        yield f"{name} to the point", (frame, POINT, [], [((), 0)] * frame.many)
        for at, row in enumerate(heights(frame)):
            steps = [((told_height(frame, row, own),), 0) for own in still_turns(frame)]
            yield f"{name} by heights {at}", (frame, LINE, [[frame.many * place for place in row]], steps)
        if frame.wide in (2, 3):
            square, back = STEEP if frame.wide == 2 else random.choice((MIXED, FAR))
            gaps = Frame(*reshaped(told(frame), square, back))
            yield f"{name} told otherwise", (frame, gaps, square, still_turns(frame))
        if not any(any(gap) for row in frame.gaps for gap in row):
            for often in (0, 3, -2, BIG):
                square = [[often * place for place in row] for row in unit(frame.wide)]
                yield f"{name} times {often}", (frame, frame, square, still_turns(frame))


def of_two_frames():
    for one, other in (("turned line", "bottle"), ("line", "bottle"), ("two points", "plane"), ("two points", "two screws"),
                       ("half turns", "line"), ("point", "space"), ("turned line", "two points"), ("bottle", "line")):
        left, right = DOWN[one], DOWN[other]
        both = beside(left, right)
        upper = [[int(at == place) for at in range(left.wide)] for place in range(both.wide)]
        yield f"{one} into both, by {other}", (left, both, upper, [
            (left.still[0] + right.still[0], turn * right.many) for turn in range(left.many)])
        rows = [[int(at == place + left.wide) for at in range(both.wide)] for place in range(right.wide)]
        yield f"{one} and {other} to the second", (both, right, rows, [
            (right.still[0], turn % right.many) for turn in range(both.many)])
    yield "halves", (STAIR, LINE, [[2]], [((0,), 0), ((1,), 0)])
    yield "halves of halves", (DOWN["cyclic 4 1 1"], LINE, [[4]], [((at,), 0) for at in range(4)])
    yield "a flat stair to a line", (DOWN["cyclic 4 1 0"], LINE, [[4]], [((0,), 0)] * 4)
    yield "halves, long", (STAIR, PLANE, [[2 * BIG], [4]], [((0, 0), 0), ((BIG, 2), 0)])
    yield "halves, some still", (DOWN["cyclic 4 1 5"], LINE, [[8]], [((at * 10,), 0) for at in range(4)])
    yield "plane to line", (PLANE, LINE, [[1, 2]], [((0,), 0)])
    yield "plane to space", (PLANE, SPACE, [[1, 2], [3, 4], [5, BIG]], [(STILL_3, 0)])
    yield "plane to space, sunk", (PLANE, SPACE, [[1, 2], [2, 4], [-BIG, -2 * BIG]], [(STILL_3, 0)])
    yield "line to space", (LINE, SPACE, [[0], [-BIG], [6]], [(STILL_3, 0)])
    yield "space to plane", (SPACE, PLANE, [[1, 2, 3], [4, 5, 6]], [((0, 0), 0)])
    yield "line to nothing", (LINE, SPACE, [[0], [0], [0]], [(STILL_3, 0)])
    yield "mirror of a point", (DOWN["two points"], FLAT, [[]], [((0,), 0), ((BIG,), 1)])
    yield "two points to a line", (DOWN["two points"], LINE, [[]], [((0,), 0), ((0,), 0)])
    yield "turned line twice", (FLAT, FLAT, [[2]], [((0,), 0), ((1,), 1)])
    yield "turned line to two points", (FLAT, DOWN["two points"], [], [((), 0), ((), 1)])
    yield "turned line to one mirror", (FLAT, FLAT, [[0]], [((0,), 0), ((5,), 1)])
    yield "two screws to one half turn", (SCREWS, DOWN["two points"], [], [((), 0), ((), 1), ((), 1), ((), 0)])
    yield "a turn to another turn", (FLAT, DOWN["half turns"], [[3], [-7]], [((0, 0), 0), ((2, 9), 1)])
    for at in range(6):
        far = random.choice((2, BIG))
        first, second = [tuple(random.randint(-far, far) for _ in range(3)) for _ in range(2)]
        yield f"two screws {at}", screws_led(first, second)


def lawful_leads():
    random.seed(11)
    found = dict(of_one_frame())
    return found | dict(of_two_frames())


def told_image(parts, motion):
    """(L v, 0) times the motion of c."""
    _, other, square, motions = parts
    return other.times((tuple(taken(square, motion[0])), 0), motions[motion[1]])


def is_told_lawful(parts):
    """Whether products go to products, of the shifts of one step and the motions (0s, c)."""
    frame, other = parts[:2]
    single = still_turns(frame) + [(tuple(row), 0) for row in unit(frame.wide)]
    return all(told_image(parts, frame.times(one, further)) == other.times(told_image(parts, one), told_image(parts, further))
               for one in single for further in single)


def rows_times(one, other, wide):
    """One rows times other rows, which have so many places, perhaps none."""
    if not other or not wide:
        return [[0] * wide for _ in one]
    return [[sum(left * right for left, right in zip(row, column, strict=True)) for column in zip(*other)] for row in one]


def is_told_merged(lead, motion):
    """Whether any value, tuples all the way in, is a motion, not still, that goes to still."""
    if not is_told_motion(lead.frame, motion) or motion == lead.frame.still:
        return False
    return told_image((lead.frame, lead.other, lead.square, lead.motions), motion) == lead.other.still


def are_told_rows(value, many, wide):
    return (isinstance(value, tuple) and len(value) == many and all(
        isinstance(row, tuple) and len(row) == wide and all(type(number) is int for number in row) for row in value))


def is_told_unlike(lead, back, times, rows):
    """Whether any values, tuples all the way in, show that no motion but still goes to still."""
    wide, broad = lead.frame.wide, lead.other.wide
    if not are_told_rows(back, wide, broad) or type(times) is not int or times < 1:
        return False
    if rows_times(back, lead.square, wide) != [[times * place for place in row] for row in unit(wide)]:
        return False
    turns = [turn for turn in range(1, lead.frame.many) if lead.motions[turn][1] == 0]
    if not isinstance(rows, tuple) or len(rows) != len(turns):
        return False
    for turn, pair in zip(turns, rows):
        if not isinstance(pair, tuple) or len(pair) != 2 or not are_told_rows(pair[:1], 1, broad):
            return False
        row, modulus = pair
        if type(modulus) is not int or modulus < 2:
            return False
        if any(number % modulus for number in rows_times([row], lead.square, wide)[0]):
            return False
        if sum(left * right for left, right in zip(row, lead.motions[turn][0])) % modulus == 0:
            return False
    return True


LEADS = lawful_leads()
MADE = {name: Lead(*parts) for name, parts in LEADS.items()}
