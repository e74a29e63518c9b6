"""Shifts, squares and rows, added and multiplied; what is passed is not checked here."""


def no_shift(wide):
    """0s: the shift that has 0 at each place."""
    return (0,) * wide


def added(one, other):
    """Two shifts added place by place."""
    return tuple([left + right for left, right in zip(one, other)])


def negative(shift):
    """The shift that added to this one makes 0s."""
    return tuple([-place for place in shift])


def along(one, other):
    """The products of two rows place by place, added up."""
    return sum([left * right for left, right in zip(one, other)])


def turned(square, shift):
    """The shift to which a square takes a shift; also what a list of integers makes of rows."""
    return tuple([along(row, shift) for row in square])


def combined(row, rows):
    """The rows, each times its integer of row, added up place by place."""
    return tuple([along(row, column) for column in zip(*rows)])


def unit_square(wide):
    """The square that leaves each shift as it is."""
    return tuple([tuple([int(row == place) for place in range(wide)]) for row in range(wide)])


def squares_joined(one, other, wide):
    """The square that takes a shift of this wide to where one takes what other takes it to.

    Neither needs to have as many rows as there are integers in each.
    """
    columns = [[row[place] for row in other] for place in range(wide)]
    return tuple([turned(columns, row) for row in one])
