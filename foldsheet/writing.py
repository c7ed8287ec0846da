"""Definitions, items and files written as integers from 0 to 255 [300], [302], [303]."""

from foldsheet.codes import fraction_code, integer_code, joined_codes, natural_code, text_code, tuple_code
from foldsheet.columns import INPUTS
from foldsheet.printer import show_formula

# What every file begins with: the letters FST and the digit 1.
MARK = (70, 83, 84, 49)
ROW = 0
FOLD = 1


def definition_code(definition):
    """Return the code of a definition."""
    inputs, states, columns, results = definition
    return joined_codes([
        tuple_code([_input_code(each) for each in inputs]),
        tuple_code([_state_code(each) for each in states]),
        tuple_code([_column_code(each) for each in columns]),
        tuple_code([_result_code(each) for each in results]),
    ])


def item_code(definition, item):
    """Return the code of a row of the definition or of a fold of any form."""
    kind, worth = item
    if kind == "row":
        entries = [_entry_code(column, entry) for column, entry in zip(definition[INPUTS], worth)]
        return natural_code(ROW) + tuple_code(entries)
    return natural_code(FOLD) + tuple_code([_point_code(point) for point in worth])


def file_of(definition, items):
    """Return the file of a definition and items."""
    return MARK + definition_code(definition) + tuple_code([item_code(definition, item) for item in items])


def _input_code(column):
    if column[0] == "choice":
        _, name, choices = column
        return text_code(name) + _choices_code(choices)
    _, name, low, high = column
    return text_code(name) + _choices_code(()) + integer_code(low) + integer_code(high)


def _state_code(column):
    name, choices, first, formula = column
    return text_code(name) + _choices_code(choices) + natural_code(choices.index(first)) + _formula_code(formula)


def _column_code(column):
    name, first, formula = column
    return text_code(name) + fraction_code(first) + _formula_code(formula)


def _result_code(result):
    name, formula = result
    return text_code(name) + _formula_code(formula)


def _choices_code(choices):
    return tuple_code([text_code(choice) for choice in choices])


def _formula_code(formula):
    return text_code(show_formula(formula))


def _entry_code(column, entry):
    if column[0] == "choice":
        return integer_code(column[2].index(entry))
    return integer_code(entry)


def _point_code(point):
    return tuple_code([fraction_code(number) for number in point])
