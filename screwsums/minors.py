"""Determinants of parts of a table, and the sums that are made of them; nothing is checked here.

An entry has the numbers of a sum of shifts by packed motions. Parts are such entries, one for each
turn: what stands ahead of it in a sum.
"""

from screwsums.packing import Packing, add_products, farthest, left_over, packed_terms
from screwsums.sums import unpacked_sum
from screwsums.tables import table_of


def packed_table(total):
    """A packing, and the table of a sum in rows of entries by it."""
    frame = total.frame
    table = table_of(total)
    far = max([farthest(entry.terms) for row in table for entry in row])
    # A product of as many entries as there are turns goes that often as far; what undoes such a
    # one, times a product of fewer entries, less than twice that.
    packing = Packing(frame.wide, 2 * frame.many * far)
    return packing, [[packed_terms(packing, entry.terms) for entry in row] for row in table]


def determinant_of(rows, by):
    """The determinant of as many rows as there are entries in each, an entry itself."""
    columns = range(len(rows))
    # By which columns are taken, as bits: the products of the rows so far in these columns, the
    # signs of their orders told, added up.
    found = {0: {0: 1}}
    for row in rows:
        further = {}
        for taken, products in found.items():
            for column in [at for at in columns if not taken >> at & 1]:
                made = further.setdefault(taken | 1 << column, {})
                add_products(made, products, row[column], _sign(taken, column, len(rows)))
        found = {taken: left_over(numbers, by) for taken, numbers in further.items()}
    return found[(1 << len(rows)) - 1]


def _sign(taken, column, many):
    greater = [other for other in range(column + 1, many) if taken >> other & 1]
    return 1 - 2 * (len(greater) % 2)


def _others(rows, by, columns):
    """For each row the determinant of the other ones in the columns, with signs in turn."""
    made = []
    for left_out in range(len(rows)):
        others = [[row[column] for column in columns] for at, row in enumerate(rows) if at != left_out]
        sign = 1 - 2 * (left_out % 2)
        made.append({at: sign * number % by for at, number in determinant_of(others, by).items()})
    return made


def undoing_parts(rows, by):
    """The parts that times a table are its determinant at turn 0, and nothing elsewhere."""
    return _others(rows, by, list(range(1, len(rows))))


def cutting_parts(rows, by):
    """Parts, not all of them nothing, that times a table whose determinant is nothing are nothing."""
    columns = []
    # The rows ahead of the last one here have a determinant in the columns that is not nothing:
    # so the last one of the parts is not.
    while True:
        upper = rows[:len(columns) + 1]
        parts = _others(upper, by, columns)
        # Parts times a column that is among these are a determinant with two equal columns.
        further = _column_left([column for column in range(len(rows)) if column not in columns], upper, by, parts)
        if further is None:
            return parts + [{} for _ in rows[len(upper):]]
        columns.append(further)


def _column_left(columns, rows, by, parts):
    """The first of the columns which the parts, times the rows, do not make nothing; None if there is none."""
    for column in columns:
        made = {}
        for part, row in zip(parts, rows):
            add_products(made, part, row[column], 1)
        if left_over(made, by):
            return column
    return None


def sum_of_parts(total, packing, parts):
    """The Sum of the frame and the prime of a total in which these parts stand ahead of the turns."""
    numbers = {}
    for turn, part in enumerate(parts):
        start = packing.packed((total.frame.still[0], turn))
        add_products(numbers, {start: 1}, part, 1)
    return unpacked_sum(total.frame, total.by, packing, numbers)
