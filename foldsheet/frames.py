"""Affine combinations of points and states [22], [84] by ones that stay the same."""

from foldsheet.elimination import common_denominator, reduced
from foldsheet.fractions import ONE, ZERO, added, fraction, multiplied
from foldsheet.points import with_one


class Frame:
    """Points by which other points are told as affine combinations; the elimination is done once for all of them."""

    def __init__(self, points):
        self._many = len(points)
        columns = [with_one(point) for point in points]
        # Behind the points stand unit columns, in which the rows keep what they do with the point that is told.
        self._rows, self._pivots = reduced(columns + _units(len(columns[0])), self._many)

    def coefficients(self, point):
        """Return the first coefficients with which a point is an affine combination of the points, or None."""
        common = common_denominator(point)
        numbers = [n * (common // d) for n, d in with_one(point)]
        sides = [sum([a * b for a, b in zip(row[self._many:], numbers)]) for row in self._rows]
        if any([side != 0 for side in sides[len(self._pivots):]]):
            return None
        coefficients = [ZERO] * self._many
        for row, pivot, side in zip(self._rows, self._pivots, sides):
            coefficients[pivot] = fraction(side, row[pivot] * common)
        return tuple(coefficients)


class StateFrame:
    """States by which other states are told as affine combinations."""

    def __init__(self, states):
        self._many = len(states)
        self._places = {}
        for at, state in enumerate(states):
            self._places.setdefault(state[0], []).append(at)
        self._frames = {choices: Frame([states[place][1] for place in places])
                        for choices, places in self._places.items()}

    def weights(self, state):
        """Return the first coefficients of the states with the same choices, 0 for all others, or None."""
        choices, numbers = state
        if choices not in self._frames:
            return None
        coefficients = self._frames[choices].coefficients(numbers)
        if coefficients is None:
            return None
        weights = [ZERO] * self._many
        for place, coefficient in zip(self._places[choices], coefficients):
            weights[place] = coefficient
        return tuple(weights)


def weighted_sum(weights, numbers):
    """Return the sum of the products of the weights and the numbers."""
    total = ZERO
    for weight, number in zip(weights, numbers):
        if weight != ZERO:
            total = added(total, multiplied(weight, number))
    return total


def combination(weights, points):
    """Return the point whose numbers are those of the points, with these weights."""
    return tuple([weighted_sum(weights, numbers) for numbers in zip(*points)])


def _units(many):
    return [(ZERO,) * place + (ONE,) + (ZERO,) * (many - place - 1) for place in range(many)]
