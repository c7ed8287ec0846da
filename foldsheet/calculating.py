"""Tables calculated row by row [81], [82], [83]."""

from foldsheet.columns import COLUMNS, INPUTS, RESULTS, STATES
from foldsheet.definitions import carried, sums_of
from foldsheet.evaluating import count_sums, numbered_sums, value_of
from foldsheet.fractions import ZERO, added


class Calculator:
    """Calculates rows and results of one right definition; it looks up once what is the same for all rows."""

    def __init__(self, definition):
        self._inputs = definition[INPUTS]
        self._states = definition[STATES]
        self._columns = definition[COLUMNS]
        self._kept_states, self._kept_columns = carried(definition)
        self._sums = sums_of(definition)
        self._results = _numbered(definition[RESULTS])
        self._result_names = [name for name, _ in definition[RESULTS]]
        self._column_names = [name for name, _, _ in definition[COLUMNS]]

    def start(self):
        """Return the state behind the table without rows."""
        firsts = {name: first for name, _, first, _ in self._states}
        numbers = {name: first for name, first, _ in self._columns}
        choices = tuple([firsts[name] for name in self._kept_states])
        running = (ZERO,) * len(self._sums)
        return (choices, tuple([numbers[name] for name in self._kept_columns]) + running)

    def step(self, state, row):
        """Return the state behind a row, the choices of all state columns in it, and its cells."""
        values = self._row_values(state, row)
        choices = tuple([values[("here", name)] for name, _, _, _ in self._states])
        cells = tuple([values[("here", name)] for name, _, _ in self._columns])
        kept_choices = tuple([values[("here", name)] for name in self._kept_states])
        kept_numbers = tuple([values[("here", name)] for name in self._kept_columns])
        earlier = state[1][len(kept_numbers):]
        running = tuple([added(total, value_of(argument, values)) for total, argument in zip(earlier, self._sums)])
        return ((kept_choices, kept_numbers + running), choices, cells)

    def behind(self, state, rows):
        """Return the state behind some rows."""
        for row in rows:
            state = self.step(state, row)[0]
        return state

    def results(self, state):
        """Return the tuple of the results in a state."""
        values = self._kept_values(state, "last")
        running = state[1][len(self._kept_columns):]
        for number, total in enumerate(running):
            values[("sum", number)] = total
        return tuple([value_of(formula, values) for formula in self._results])

    def output(self, name, state, cells):
        """Return a result in the state behind a row, or the cell of a number column in this row, by its name."""
        if name in self._result_names:
            return self.results(state)[self._result_names.index(name)]
        return cells[self._column_names.index(name)]

    def _kept_values(self, state, kind):
        """The values of the references of a kind to the last row, which is all that is known of it."""
        values = {}
        for name, choice in zip(self._kept_states, state[0]):
            values[(kind, name)] = choice
        for name, number in zip(self._kept_columns, state[1]):
            values[(kind, name)] = number
        return values

    def _row_values(self, state, row):
        """The values of all references that stand in the formulas of a row."""
        values = self._kept_values(state, "above")
        for column, entry in zip(self._inputs, row):
            values[("here", column[1])] = (entry, 1) if column[0] == "number" else entry
        for name, _, _, formula in self._states:
            values[("here", name)] = value_of(formula, values)
        for name, _, formula in self._columns:
            values[("here", name)] = value_of(formula, values)
        return values


def _numbered(results):
    """The formulas of the results, their sums numbered through all of them."""
    formulas = []
    many = 0
    for _, formula in results:
        formulas.append(numbered_sums(formula, many))
        many += count_sums(formula)
    return formulas
