"""Sheets: definitions with all that decides what later rows and results can depend on [142], [143], [144]."""

from foldsheet.calculating import Calculator
from foldsheet.columns import COLUMNS, RESULTS
from foldsheet.elimination import Basis
from foldsheet.endings import list_endings, value_behind
from foldsheet.errors import DefinitionError
from foldsheet.frames import Frame, StateFrame, combination
from foldsheet.points import fitted, with_one
from foldsheet.rules import first_problem
from foldsheet.searching import search_tables


class Sheet:
    """A right definition, its listed tables, its endings and its beginnings; it never changes."""

    MOST_TABLES = 12
    MOST_ROWS = 24
    MOST_DIGITS = 100

    def __init__(self, definition):
        problem = first_problem(definition)
        if problem is not None:
            path, reason = problem
            raise DefinitionError(path, reason)
        self._definition = definition
        self._calculator = Calculator(definition)
        found = search_tables(definition)
        self._test_rows = found.rows
        self._listed = tuple(found.tables)
        self._states = found.states
        self._state_frame = StateFrame(found.states)
        self._find_endings()
        self._find_beginnings()

    def _find_endings(self):
        listing = list_endings(self._calculator, self._states, self._first_candidates(), self._test_rows)
        self._endings = tuple(listing.found)
        # Without endings no values tell how many tables there are.
        self._listed_points = [tuple([values[at] for values in listing.told]) for at in range(len(self._listed))]

    def _first_candidates(self):
        results = [((), name) for name, _ in self._definition[RESULTS]]
        return results + [((row,), name) for row in self._test_rows for name, _, _ in self._definition[COLUMNS]]

    def _find_beginnings(self):
        basis = Basis()
        places = [at for at, point in enumerate(self._listed_points) if basis.takes(with_one(point))]
        self._beginnings = tuple([self._listed[at] for at in places])
        self._beginning_states = [self._states[at] for at in places]
        self._points = tuple([self._listed_points[at] for at in places])
        self._frame = Frame(self._points)

    def __len__(self):
        return len(self._endings)

    @property
    def definition(self):
        """The definition of the sheet."""
        return self._definition

    @property
    def test_rows(self):
        """The test rows of the definition."""
        return self._test_rows

    @property
    def listed(self):
        """The listed tables, in order."""
        return self._listed

    @property
    def endings(self):
        """The endings, in order."""
        return self._endings

    @property
    def beginnings(self):
        """The tables that are beginnings, in order."""
        return self._beginnings

    @property
    def points(self):
        """The points of the beginnings, in order."""
        return self._points

    def point(self, table):
        """Return the point of the table."""
        return self._point_behind(self._calculator.behind(self._calculator.start(), table))

    def coordinates(self, point):
        """Return the coefficients with which the point is an affine combination of the points of the beginnings."""
        return self._frame.coefficients(point)

    def express(self, ending):
        """Return the constant and the coefficients by which the ending is told from the numbers of a point."""
        values = [value_behind(self._calculator, state, ending) for state in self._beginning_states]
        return fitted(self._points, tuple(values))

    def steps(self, row):
        """Return two tuples: for each beginning the point behind it and the row, and the cells of the row there."""
        told = [self._calculator.step(state, row) for state in self._beginning_states]
        return (tuple([self._point_behind(state) for state, _, _ in told]), tuple([cells for _, _, cells in told]))

    def outcomes(self):
        """Return for each beginning the tuple of its results."""
        return tuple([self._calculator.results(state) for state in self._beginning_states])

    def _point_behind(self, state):
        # Every state behind rows is an affine combination of those behind the listed tables, and its point likewise.
        return combination(self._state_frame.weights(state), self._listed_points)
