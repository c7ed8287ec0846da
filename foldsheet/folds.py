"""Folds: what the rest of a table can depend on of a block of rows [160] to [165]."""

from foldsheet.fractions import multiplied
from foldsheet.frames import combination


def advance(sheet, items, *, point=None):
    """Return for each item its cells, or None for a fold, and the point behind the items from a point on."""
    if point is None:
        point = sheet.points[0]
    told = []
    for kind, worth in items:
        if kind == "fold":
            told.append(None)
            point = applied(sheet, worth, point)
        else:
            behind, cells = sheet.steps(worth)
            told.append(combination(sheet.coordinates(point), cells))
            point = applied(sheet, behind, point)
    return (tuple(told), point)


def results_of(sheet, point):
    """Return the tuple of the results of the point."""
    return combination(sheet.coordinates(point), sheet.outcomes())


def applied(sheet, fold, point):
    """Return the fold applied to the point."""
    return combination(sheet.coordinates(point), fold)


def calculate(sheet, items):
    """Return for each item its cells, or None for a fold, and the tuple of the results."""
    told, point = advance(sheet, items)
    return (told, results_of(sheet, point))


def fold(sheet, items):
    """Return the fold of the items."""
    points = sheet.points
    for kind, worth in items:
        behind = worth if kind == "fold" else sheet.steps(worth)[0]
        points = composed(sheet, points, behind)
    return points


def composed(sheet, first, second):
    """Return the composition of two folds."""
    return tuple([applied(sheet, second, point) for point in first])


def influence(sheet, before, ending):
    """Return the constant and, for each number of each point of a fold, its factor in the value of the ending."""
    coordinates = sheet.coordinates(sheet.point(before))
    constant, coefficients = sheet.express(ending)
    return (constant, tuple([tuple([multiplied(a, e) for e in coefficients]) for a in coordinates]))
