"""The list of tables behind which the states combine to all states there are [120], [121]."""

from foldsheet.elimination import Basis
from foldsheet.errors import TooLarge
from foldsheet.fractions import digits_of
from foldsheet.points import with_one

MOST_TABLES = 12
MOST_DIGITS = 100


class Listing:
    """Tables and the states behind them, of which none is an affine combination of those before it."""

    def __init__(self, rows):
        self.rows = rows
        self.tables = []
        self.states = []
        self._bases = {}

    def consider(self, table, state):
        """Add the table to the list, unless the state behind it is an affine combination of states on the list."""
        choices, numbers = state
        if not self._bases.setdefault(choices, Basis()).takes(with_one(numbers)):
            return
        if len(self.tables) == MOST_TABLES:
            raise TooLarge("too many tables")
        check_digits(numbers)
        self.tables.append(table)
        self.states.append(state)


def search(start, rows, step):
    """Return the listing that begins with the table without rows and is extended by these rows.

    The state behind no rows is told, and the step gives the state behind a state and a row.
    """
    listing = Listing(rows)
    listing.consider((), start)
    at = 0
    while at < len(listing.tables):
        for row in rows:
            listing.consider(listing.tables[at] + (row,), step(listing.states[at], row))
        at += 1
    return listing


def check_digits(numbers):
    """Raise TooLarge if one of the numbers has too many digits."""
    if any([digits_of(number) > MOST_DIGITS for number in numbers]):
        raise TooLarge("too many digits")
