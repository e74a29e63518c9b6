"""Lawful frames for the tests, told as (wide, turns, squares, gaps), and values that are none of a kind."""

SWAP = [[0, 1], [1, 0]]
NO_ROWS = (None, True, 3, "[[0]]", {0: [0]}, {1, 2}, b"ab", object(), 1.0, iter([[0]]))
NO_INTEGERS = (None, True, False, 1.0, "1", b"1", [1], (1,), {1: 1}, object())
NO_FRAMES = (None, True, 0, 2, "bottle", [], (), {}, (0, [[0]], [[]], [[[]]]), object(), object, b"line")
NAMES = ("line", "plane", "space", "turned line", "half turns", "bottle", "two screws", "third screw", "fourth screw")


def unit(wide):
    return [[int(row == at) for at in range(wide)] for row in range(wide)]


def matrix_product(one, other):
    wide = len(one)
    return [[sum(one[i][k] * other[k][j] for k in range(wide)) for j in range(wide)] for i in range(wide)]


def taken(square, shift):
    return [sum(left * right for left, right in zip(row, shift)) for row in square]


def summed(*shifts):
    return [sum(places) for places in zip(*shifts)]


def no_gaps(many, wide):
    return [[[0] * wide for _ in range(many)] for _ in range(many)]


def group_of(wide, generators):
    """The turns and squares of all products of some squares, the unit one first."""
    squares = [unit(wide)]
    for square in squares:
        for generator in generators:
            further = matrix_product(square, generator)
            if further not in squares:
                squares.append(further)
    turns = [[squares.index(matrix_product(one, other)) for other in squares] for one in squares]
    return turns, squares


def flat(wide, generators):
    turns, squares = group_of(wide, generators)
    return wide, turns, squares, no_gaps(len(turns), wide)


def cyclic(many, wide, climb=0):
    """Turns that are added, each done many times a shift by climb at the last place."""
    turns = [[(c + d) % many for d in range(many)] for c in range(many)]
    gaps = [[[0] * (wide - 1) + [climb * (c + d >= many)] if wide else [] for d in range(many)] for c in range(many)]
    return wide, turns, [unit(wide) for _ in range(many)], gaps


def moved(told, starts):
    """The same told from other starts: lawful again, with other gaps."""
    wide, turns, squares, gaps = told
    every = range(len(turns))
    further = [[summed(gaps[c][d], starts[c], taken(squares[c], starts[d]), [-at for at in starts[turns[c][d]]])
                for d in every] for c in every]
    return wide, turns, squares, further


def quaternions():
    """Eight turns, of which one and another one often differ from the other one and the one."""
    signed = {"11": "1", "1i": "i", "1j": "j", "1k": "k", "i1": "i", "j1": "j", "k1": "k", "ii": "-1", "jj": "-1",
              "kk": "-1", "ij": "k", "ji": "-k", "jk": "i", "kj": "-i", "ki": "j", "ik": "-j"}
    names = ["1", "i", "j", "k", "-1", "-i", "-j", "-k"]

    def times(one, other):
        minus = one.startswith("-") != other.startswith("-")
        told = signed[one[-1] + other[-1]]
        minus = minus != told.startswith("-")
        return ("-" if minus else "") + told[-1]

    turns = [[names.index(times(one, other)) for other in names] for one in names]
    signs = {"1": (1, 1, 1), "i": (1, -1, -1), "j": (-1, 1, -1), "k": (-1, -1, 1)}
    squares = [[[signs[name[-1]][row] * int(row == at) for at in range(3)] for row in range(3)] for name in names]
    return 3, turns, squares, no_gaps(8, 3)


def two_screws():
    turns = [[0, 1, 2, 3], [1, 0, 3, 2], [2, 3, 0, 1], [3, 2, 1, 0]]
    signs = [(1, 1, 1), (1, -1, -1), (-1, 1, -1), (-1, -1, 1)]
    squares = [[[sign[row] * int(row == at) for at in range(3)] for row in range(3)] for sign in signs]
    gaps = no_gaps(4, 3)
    told = {(1, 1): [1, 0, 0], (2, 2): [0, 1, 0], (3, 3): [0, 0, 1], (2, 1): [-1, 1, -1], (1, 3): [1, 0, 0],
            (2, 3): [-1, 0, -1], (3, 1): [0, -1, 1], (3, 2): [0, -1, 0]}
    for (c, d), gap in told.items():
        gaps[c][d] = gap
    return 3, turns, squares, gaps


def screw(generator):
    """A square and a shift by a part of the third place, which together make the shift (0, 0, 1)."""
    wide, turns, squares, gaps = flat(3, [generator])
    many = len(turns)
    gaps = [[[0, 0, int(c + d >= many)] for d in range(many)] for c in range(many)]
    return wide, turns, squares, gaps


def lawful_frames():
    """Lawful frames by name: of each wide and of one to eight turns."""
    told = {f"cyclic {many} {wide} {climb}": cyclic(many, wide, climb)
            for many in range(1, 9) for wide in range(4) for climb in (0, 1, 5)}
    told["turned line"] = flat(1, [[[-1]]])
    told["bottle"] = (2, SWAP, [unit(2), [[1, 0], [0, -1]]], [[[0, 0], [0, 0]], [[0, 0], [1, 0]]])
    told["square"] = flat(2, [[[0, -1], [1, 0]], [[1, 0], [0, -1]]])
    told["triangle"] = flat(2, [[[0, -1], [1, -1]], [[0, 1], [1, 0]]])
    told["six turns"] = flat(2, [[[1, -1], [1, 0]]])
    told["mirrors"] = flat(3, [[[-1, 0, 0], [0, 1, 0], [0, 0, 1]], [[1, 0, 0], [0, -1, 0], [0, 0, 1]],
                               [[1, 0, 0], [0, 1, 0], [0, 0, -1]]])
    told["third screw"] = screw([[0, -1, 0], [1, -1, 0], [0, 0, 1]])
    told["fourth screw"] = screw([[0, -1, 0], [1, 0, 0], [0, 0, 1]])
    told["two screws"] = two_screws()
    told["quaternions"] = quaternions()
    for name in ("square", "mirrors", "third screw", "two screws", "quaternions"):
        wide, turns = told[name][:2]
        starts = [[c * (at + 2) - 3 * at * c * c for at in range(wide)] for c in range(len(turns))]
        told["moved " + name] = moved(told[name], starts)
    return told


def all_tuples(value):
    """Whether no list stands in a value."""
    if isinstance(value, list):
        return False
    return not isinstance(value, tuple) or all(all_tuples(part) for part in value)
