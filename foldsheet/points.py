"""Combinations of points [22] to [25].

Each question is a system of equations, whose columns are the points that are combined.
The columns are dealt with in order, so those that depend on columns before them get the coefficient 0.
"""

from math import gcd, lcm

from foldsheet.fractions import fraction

ZERO = (0, 1)
ONE = (1, 1)


def linear(point, points):
    """Return the first coefficients with which the point is a linear combination of the points, or None."""
    many = len(points)
    rows, pivots = _reduced(_equations(points + (point,)), many)
    if any([row[many] != 0 for row in rows[len(pivots):]]):
        return None
    coefficients = [ZERO] * many
    for row, pivot in zip(rows, pivots):
        coefficients[pivot] = fraction(row[many], row[pivot])
    return tuple(coefficients)


def affine(point, points):
    """Return the first coefficients with which the point is an affine combination of the points, or None."""
    return linear(_with_one(point), tuple([_with_one(each) for each in points]))


def separating(point, points):
    """Return the tuple that separates the point from the points, or None if it is a linear combination of them."""
    columns = tuple(zip(*points, point))
    return linear((ZERO,) * len(points) + (ONE,), columns)


def independent_places(points):
    """Return the places of the points that are no affine combinations of the points before them."""
    rows = _equations([_with_one(each) for each in points])
    return tuple(_reduced(rows, len(points))[1])


def fitted(points, values):
    """Return the constant and the coefficients by which the points fit the values, or None."""
    columns = ((ONE,) * len(points),) + tuple(zip(*points))
    coefficients = linear(values, columns)
    if coefficients is None:
        return None
    return (coefficients[0], coefficients[1:])


def _with_one(point):
    # Coefficients add up to 1 exactly if they also combine these ones.
    return point + (ONE,)


def _equations(columns):
    """One row of integers for each place of the columns, in the ratio of their numbers there."""
    return [_whole(numbers) for numbers in zip(*columns)]


def _whole(numbers):
    common = 1
    for number in numbers:
        common = lcm(common, number[1])
    return _shortened([n * (common // d) for n, d in numbers])


def _shortened(row):
    common = 0
    for number in row:
        common = gcd(common, number)
    if common < 2:
        return row
    return [number // common for number in row]


def _reduced(rows, many):
    """The rows in reduced echelon form as to their first columns, so many, and the list of the pivots' columns."""
    pivots = []
    for column in range(many):
        top = len(pivots)
        usable = [at for at in range(top, len(rows)) if rows[at][column] != 0]
        if usable:
            rows = _cleared(rows, top, usable[0], column)
            pivots.append(column)
    return rows, pivots


def _cleared(rows, top, chosen, column):
    """The rows with the chosen one moved up to the top, and with zeros in the column of all others."""
    pivot = rows[chosen]
    others = [_without(row, pivot, column) for row in rows[:chosen] + rows[chosen + 1:]]
    return others[:top] + [pivot] + others[top:]


def _without(row, pivot, column):
    if row[column] == 0:
        return row
    return _shortened([pivot[column] * mine - row[column] * its for mine, its in zip(row, pivot)])
