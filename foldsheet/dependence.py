"""Which number formulas depend on earlier rows [64]."""

from foldsheet.columns import COLUMNS, named_column
from foldsheet.formulas import parts_of


def is_dependent(definition, dependent, formula):
    """Return whether a number formula depends on earlier rows, if it is told which number columns do."""
    # Comparisons are no references, so what stands in conditions plays no part.
    return any([_brings_earlier_rows(definition, dependent, part) for part in parts_of(formula)])


def _brings_earlier_rows(definition, dependent, part):
    if part[0] != "here":
        return part[0] in ("above", "last", "sum")
    column = named_column(definition, part[1])
    return column is not None and column[0] == COLUMNS and dependent[column[1]]
