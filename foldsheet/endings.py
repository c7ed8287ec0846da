"""Endings: what follows a table, and one output of it [140], and the list of those that tell all others [141]."""

from foldsheet.calculating import Calculator
from foldsheet.elimination import Basis
from foldsheet.fractions import ONE
from foldsheet.listing import check_digits
from foldsheet.testrows import test_rows


def ending_value(definition, table, ending):
    """Return the value of the ending behind the table."""
    calculator = Calculator(definition)
    return value_behind(calculator, calculator.behind(calculator.start(), table), ending)


def listed_endings(definition, tables, candidates):
    """Return the tuple of the endings that are listed from the candidates by the tables, or raise TooLarge."""
    calculator = Calculator(definition)
    states = [calculator.behind(calculator.start(), table) for table in tables]
    return tuple(list_endings(calculator, states, candidates, test_rows(definition)).found)


def list_endings(calculator, states, candidates, rows):
    """Return the listing of endings by the tables behind which these states are, extended by these rows."""
    listing = EndingListing(calculator, states)
    for candidate in candidates:
        listing.consider(candidate)
    at = 0
    while at < len(listing.found):
        behind, output = listing.found[at]
        for row in rows:
            listing.consider(((row,) + behind, output))
        at += 1
    return listing


def value_behind(calculator, state, ending):
    """Return the value of the ending behind a state."""
    rows, output = ending
    cells = ()
    for row in rows:
        state, _, cells = calculator.step(state, row)
    return calculator.output(output, state, cells)


class EndingListing:
    """A list of endings and of their values behind some tables, none of them dependent on those before it."""

    def __init__(self, calculator, states):
        self.found = []
        self.told = []
        self._calculator = calculator
        self._states = states
        self._basis = Basis()
        # Dependent endings are combinations of a constant and of other endings.
        self._basis.takes((ONE,) * len(states))

    def consider(self, ending):
        """Add the ending to the list, unless it is dependent."""
        values = tuple([value_behind(self._calculator, state, ending) for state in self._states])
        if self._basis.takes(values):
            check_digits(values)
            self.found.append(ending)
            self.told.append(values)
