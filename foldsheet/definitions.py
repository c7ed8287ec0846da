"""What a definition says of its columns and sums as a whole [64], [65]."""

from foldsheet.columns import COLUMNS, RESULTS, STATES, all_columns, all_formulas, name_of, named_column
from foldsheet.dependence import is_dependent
from foldsheet.formulas import parts_of, references_in
from foldsheet.reasons import dependent_columns


def carried(definition):
    """Return the names of the carried state columns and those of the carried number columns."""
    found = _columns_of_earlier_rows(definition)
    kept = [column for column in all_columns(definition) if column in found]
    states = [name_of(definition, column) for column in kept if column[0] == STATES]
    numbers = [name_of(definition, column) for column in kept if column[0] == COLUMNS]
    return (tuple(states), tuple(numbers))


def sums_of(definition):
    """Return the arguments of the sums, in order."""
    parts = [part for _, formula in definition[RESULTS] for part in parts_of(formula)]
    return tuple([part[1] for part in parts if part[0] == "sum"])


def depends(definition, formula):
    """Return whether a number formula of the definition depends on earlier rows."""
    return is_dependent(definition, dependent_columns(definition), formula)


def _columns_of_earlier_rows(definition):
    references = [each for formula in all_formulas(definition) for each in references_in(formula)]
    return [named_column(definition, name) for kind, name in references if kind in ("above", "last")]
