"""The columns of a definition [60] and what a name means in its formulas [62]."""

# Places of the four tuples in a definition. A column is a pair of one of the first three and a place in that tuple.
INPUTS = 0
STATES = 1
COLUMNS = 2
RESULTS = 3


def name_of(definition, column):
    """Return the name of a column."""
    group, place = column
    if group == INPUTS:
        return definition[INPUTS][place][1]
    return definition[group][place][0]


def all_columns(definition):
    """Return the list of all columns, in the order in which names are looked up."""
    return [(group, place) for group in (INPUTS, STATES, COLUMNS) for place in range(len(definition[group]))]


def named_column(definition, name):
    """Return the first column that has the name, or None."""
    for column in all_columns(definition):
        if name_of(definition, column) == name:
            return column
    return None


def is_number_input(definition, column):
    """Return whether a column is a number input."""
    group, place = column
    return group == INPUTS and definition[INPUTS][place][0] == "number"


def choices_of(definition, column):
    """Return the choices of a choice input or a state column, and no choices for every other column."""
    group, place = column
    if group == STATES:
        return definition[STATES][place][1]
    if group == INPUTS and not is_number_input(definition, column):
        return definition[INPUTS][place][2]
    return ()


def all_formulas(definition):
    """Return the list of the formulas of the state columns, of the number columns and of the results."""
    states = [formula for _, _, _, formula in definition[STATES]]
    columns = [formula for _, _, formula in definition[COLUMNS]]
    results = [formula for _, formula in definition[RESULTS]]
    return states + columns + results
