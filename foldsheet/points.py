"""Combinations of points [22] to [25].

Each question is a system of equations, whose columns are the points that are combined.
The columns are dealt with in order, so those that depend on columns before them get the coefficient 0.
"""

from foldsheet.elimination import reduced
from foldsheet.fractions import ONE, ZERO, fraction


def linear(point, points):
    """Return the first coefficients with which the point is a linear combination of the points, or None."""
    many = len(points)
    rows, pivots = reduced(points + (point,), many)
    if any([row[many] != 0 for row in rows[len(pivots):]]):
        return None
    coefficients = [ZERO] * many
    for row, pivot in zip(rows, pivots):
        coefficients[pivot] = fraction(row[many], row[pivot])
    return tuple(coefficients)


def affine(point, points):
    """Return the first coefficients with which the point is an affine combination of the points, or None."""
    return linear(with_one(point), tuple([with_one(each) for each in points]))


def separating(point, points):
    """Return the tuple that separates the point from the points, or None if it is a linear combination of them."""
    columns = tuple(zip(*points, point))
    return linear((ZERO,) * len(points) + (ONE,), columns)


def independent_places(points):
    """Return the places of the points that are no affine combinations of the points before them."""
    return tuple(reduced([with_one(each) for each in points], len(points))[1])


def fitted(points, values):
    """Return the constant and the coefficients by which the points fit the values, or None."""
    columns = ((ONE,) * len(points),) + tuple(zip(*points))
    coefficients = linear(values, columns)
    if coefficients is None:
        return None
    return (coefficients[0], coefficients[1:])


def with_one(point):
    """Return the point with a 1 behind it: what combines such points linearly has coefficients that add up to 1."""
    return point + (ONE,)
