"""Elimination over rows of integers, which stand for rows of fractions in the same ratio."""

from math import gcd, lcm


def whole_row(numbers):
    """Return the row of integers in the ratio of the fractions, without a common divisor."""
    common = common_denominator(numbers)
    return _shortened([n * (common // d) for n, d in numbers])


def common_denominator(numbers):
    """Return the least common multiple of the denominators of some fractions."""
    common = 1
    for number in numbers:
        common = lcm(common, number[1])
    return common


def reduced(columns, many):
    """Bring the rows of some columns into reduced echelon form as to the first columns, so many.

    Return the rows of integers, and the list of the columns of the pivots, which stand in the first rows.
    """
    rows = [whole_row(numbers) for numbers in zip(*columns)]
    pivots = []
    for column in range(many):
        top = len(pivots)
        usable = [at for at in range(top, len(rows)) if rows[at][column] != 0]
        if usable:
            rows = _cleared(rows, top, usable[0], column)
            pivots.append(column)
    return rows, pivots


def _cleared(rows, top, chosen, column):
    """The rows with the chosen one moved up to the top, and with zeros in the column of all others."""
    pivot = rows[chosen]
    others = [_without(row, pivot, column) for row in rows[:chosen] + rows[chosen + 1:]]
    return others[:top] + [pivot] + others[top:]


def _without(row, pivot, column):
    """The row, or a multiple of it, less a multiple of the pivot, such that it has 0 in this column."""
    if row[column] == 0:
        return row
    return _shortened([pivot[column] * mine - row[column] * its for mine, its in zip(row, pivot)])


def _shortened(row):
    common = 0
    for number in row:
        common = gcd(common, number)
    if common < 2:
        return row
    return [number // common for number in row]


class Basis:
    """Rows of fractions, of which none is a linear combination of those before it."""

    def __init__(self):
        self._rows = []

    def takes(self, numbers):
        """Take the numbers unless they are a linear combination of those taken before; return whether they are not."""
        row = whole_row(numbers)
        for column, kept in self._rows:
            row = _without(row, kept, column)
        for column, number in enumerate(row):
            if number != 0:
                self._rows.append((column, row))
                return True
        return False
