"""Pairs of states by two sheets with the same inputs, and the tables behind which they are listed [200], [201]."""

from foldsheet.calculating import Calculator
from foldsheet.columns import INPUTS
from foldsheet.errors import InputsDiffer
from foldsheet.listing import search


class PairCalculator:
    """Calculates rows by two right definitions at once."""

    def __init__(self, first, second):
        self._one = Calculator(first)
        self._other = Calculator(second)
        self._start = self._one.start()
        self._many_choices = len(self._start[0])
        self._many_numbers = len(self._start[1])

    def start(self):
        """Return the pair of states behind the table without rows."""
        return _joined(self._start, self._other.start())

    def step(self, pair, row):
        """Return the pair of states behind the row, and its cells by the two definitions."""
        one, other = self._divided(pair)
        one, _, cells = self._one.step(one, row)
        other, _, other_cells = self._other.step(other, row)
        return (_joined(one, other), cells, other_cells)

    def behind(self, pair, rows):
        """Return the pair of states behind some rows."""
        for row in rows:
            pair = self.step(pair, row)[0]
        return pair

    def results(self, pair):
        """Return the results by the two definitions."""
        one, other = self._divided(pair)
        return (self._one.results(one), self._other.results(other))

    def _divided(self, pair):
        choices, numbers = pair
        one = (choices[:self._many_choices], numbers[:self._many_numbers])
        other = (choices[self._many_choices:], numbers[self._many_numbers:])
        return one, other


def check_inputs(first, second):
    """Raise InputsDiffer if two sheets have not the same inputs."""
    if first.definition[INPUTS] != second.definition[INPUTS]:
        raise InputsDiffer("the inputs differ")


def search_pairs(calculator, rows):
    """Return the listing of the tables by pairs of states, extended by these rows."""
    return search(calculator.start(), rows, lambda pair, row: calculator.step(pair, row)[0])


def _joined(one, other):
    return (one[0] + other[0], one[1] + other[1])
