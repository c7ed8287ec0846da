"""States behind tables, cells and results [81], [82], [83]."""

from foldsheet.calculating import Calculator


def start_state(definition):
    """Return the state behind the table without rows."""
    return Calculator(definition).start()


def next_state(definition, state, row):
    """Return the state behind the row, the choices of all state columns in the row, and its cells."""
    return Calculator(definition).step(state, row)


def results_at(definition, state):
    """Return the tuple of the results in a state."""
    return Calculator(definition).results(state)


def state_after(definition, table):
    """Return the state behind the table."""
    calculator = Calculator(definition)
    return calculator.behind(calculator.start(), table)


def calculated(definition, table):
    """Return for each row the choices of all state columns and the cells, and the tuple of the results."""
    calculator = Calculator(definition)
    state = calculator.start()
    told = []
    for row in table:
        state, choices, cells = calculator.step(state, row)
        told.append((choices, cells))
    return (tuple(told), calculator.results(state))
