"""Plain ways to the same answers, for the tests: by the document's words, one motion after another."""

import itertools
import random

from screwsums.frames import Frame
from screwsums.named import beside, named
from screwsums.sums import Sum
from tests.lawful import NAMES, lawful_frames

PRIMES = (2, 3, 5, 7, 11, 13)
BIG = 10 ** 30 - 1

FRAMES = {name: Frame(*told) for name, told in lawful_frames().items()}
FRAMES.update({name: named(name) for name in NAMES})
FRAMES.update({f"{one} beside {other}": beside(named(one), named(other)) for one, other in (
    ("turned line", "bottle"), ("bottle", "turned line"), ("half turns", "line"), ("line", "bottle"),
    ("turned line", "half turns"), ("turned line", "plane"), ("line", "turned line"))})
FRAMES["point"] = Frame(0, [[0]], [[]], [[[]]])
FRAMES["two points"] = Frame(0, [[0, 1], [1, 0]], [[], []], [[[], []], [[], []]])


def anew(frame):
    """An equal frame, made of lists."""
    return Frame(frame.wide, [list(row) for row in frame.turns], [list(square) for square in frame.squares],
                 [[list(gap) for gap in row] for row in frame.gaps])


def shift_of(frame, far):
    return tuple(random.randint(-far, far) for _ in range(frame.wide))


def motion_of(frame, far=3):
    return shift_of(frame, far), random.randrange(frame.many)


def some_sum(frame, by, many, far=3):
    """A sum of at most so many terms."""
    return Sum(frame, by, [(motion_of(frame, far), random.randint(1, by - 1)) for _ in range(many)])


def full_sum(frame, by, many, far, turns):
    """A sum of just so many terms, of these turns."""
    motions = set()
    while len(motions) < many:
        motions.add((shift_of(frame, far), random.choice(turns)))
    return Sum(frame, by, [(motion, random.randint(1, by - 1)) for motion in sorted(motions)])


def ordered(numbers, by):
    """The terms of a sum, by the numbers of its motions."""
    rests = [(motion, number % by) for motion, number in numbers.items()]
    return tuple(sorted([term for term in rests if term[1]], key=lambda term: (term[0][1], term[0][0])))


def times(one, other):
    """The terms of one sum times another one."""
    numbers = {}
    for (ahead, number), (behind, worth) in itertools.product(one.terms, other.terms):
        motion = one.frame.times(ahead, behind)
        numbers[motion] = numbers.get(motion, 0) + number * worth
    return ordered(numbers, one.by)


def table(total):
    """The table, in dicts of the numbers of shifts."""
    frame = total.frame
    rows = []
    for c in range(frame.many):
        row = [{} for _ in range(frame.many)]
        for (shift, d), number in total.terms:
            turned = tuple(sum(left * right for left, right in zip(line, shift)) for line in frame.squares[c])
            at = tuple(place + gap for place, gap in zip(turned, frame.gaps[c][d]))
            row[frame.turns[c][d]][at] = number
        rows.append(row)
    return rows


def shifts_times(one, other):
    made = {}
    for (left, number), (right, worth) in itertools.product(one.items(), other.items()):
        at = tuple(map(sum, zip(left, right)))
        made[at] = made.get(at, 0) + number * worth
    return made


def determinant(total):
    """The terms of the determinant, by all orders of the turns with their signs."""
    rows, frame = table(total), total.frame
    found = {}
    for order in itertools.permutations(range(frame.many)):
        odd = sum(one > other for one, other in itertools.combinations(order, 2)) % 2
        made = {(0,) * frame.wide: -1 if odd else 1}
        for row, turn in zip(rows, order):
            made = shifts_times(made, row[turn])
        for shift, number in made.items():
            found[(shift, 0)] = found.get((shift, 0), 0) + number
    return ordered(found, total.by)


def powers_sum(frame, by, back):
    """The sum of the powers of a motion that comes back."""
    return Sum(frame, by, [(frame.power(back.motion, at), 1) for at in range(back.times)])


def less_motion(frame, by, motion):
    """The still motion less a motion."""
    return Sum(frame, by, [(frame.still, 1), (motion, -1)])


def gardam(screws):
    """By 2, the shape of the heads 1 of two screws: a sum of 21 motions that can be undone."""
    def shifts(*places):
        return Sum(screws, 2, [(at, 1) for at in [(place, 0) for place in places]])

    def turn(number):
        return Sum(screws, 2, [(((0, 0, 0), number), 1)])

    none = (0, 0, 0)
    x, y, z = (1, 0, 0), (0, 1, 0), (0, 0, 1)
    p = shifts(none, x).times(shifts(none, y)).times(shifts(none, (0, 0, -1)))
    q = shifts(none, x).times(shifts(none, (-1, -1, 0))).plus(shifts(none, (0, -1, 0)).times(shifts(none, z)))
    r = shifts(z).times(shifts(none, (0, -1, 0))).times(shifts(none, (1, 1, 0)))
    r = r.plus(shifts(none, x).times(shifts(none, z)))
    s = shifts(none, (1, 0, -1), (-1, 0, -1), (0, 1, -1), (0, -1, -1))
    return p.plus(q.times(turn(1))).plus(r.times(turn(2))).plus(s.times(turn(3)))
