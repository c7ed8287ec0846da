"""The search for tables [120], [121], and the weights of tables by others [122]."""

from foldsheet.calculating import Calculator
from foldsheet.frames import StateFrame
from foldsheet.listing import search
from foldsheet.testrows import test_rows


def listed_tables(definition):
    """Return the tuple of the listed tables of a right definition, in order, or raise TooLarge."""
    return tuple(search_tables(definition).tables)


def search_tables(definition):
    """Return the listing of the tables of a right definition, with the states behind them, or raise TooLarge."""
    calculator = Calculator(definition)
    return search(calculator.start(), test_rows(definition), lambda state, row: calculator.step(state, row)[0])


def table_weights(definition, tables, table):
    """Return the tuple of the weights of a table by some tables, or None if there are none."""
    calculator = Calculator(definition)
    start = calculator.start()
    frame = StateFrame([calculator.behind(start, each) for each in tables])
    return frame.weights(calculator.behind(start, table))
