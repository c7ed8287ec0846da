"""Which number formulas depend on earlier rows [64]."""

from foldsheet.columns import COLUMNS, INPUTS, choices_of, is_number_input, named_column
from foldsheet.formulas import REFERENCES, RELATIONS, parts_of


def dependent_columns(definition):
    """Return a list that tells of each number column whether its formula depends on earlier rows."""
    many = len(definition[COLUMNS])
    dependent = [False] * many
    for place in range(many):
        formula = definition[COLUMNS][place][2]
        # A formula with a problem counts as one that does not depend on earlier rows.
        if _is_right(definition, dependent, place, formula):
            dependent[place] = is_dependent(definition, dependent, formula)
    return dependent


def is_dependent(definition, dependent, formula):
    """Return whether a number formula depends on earlier rows, if it is told which number columns do."""
    # Comparisons are no references, so what stands in conditions plays no part.
    return any([_brings_earlier_rows(definition, dependent, part) for part in parts_of(formula)])


def _brings_earlier_rows(definition, dependent, part):
    if part[0] != "here":
        return part[0] in ("above", "last", "sum")
    column = named_column(definition, part[1])
    return column is not None and column[0] == COLUMNS and dependent[column[1]]


def _is_right(definition, dependent, place, formula):
    """Whether the formula of the number column at this place has no problem [63]."""
    return all([_is_permitted(definition, dependent, place, part) for part in parts_of(formula)])


def _is_permitted(definition, dependent, place, part):
    kind = part[0]
    if kind in ("choice", "sum"):
        return False
    if kind in REFERENCES:
        return _is_right_reference(definition, place, part)
    if kind in RELATIONS:
        return _is_right_comparison(definition, place, part)
    if kind == "floor":
        return not is_dependent(definition, dependent, part[1])
    if kind == "*":
        return not all([is_dependent(definition, dependent, factor) for factor in part[1:]])
    return True


def _is_right_reference(definition, place, reference):
    kind, name = reference
    column = named_column(definition, name)
    if column is None or not _stands(kind, column, place):
        return False
    return column[0] == COLUMNS or is_number_input(definition, column)


def _is_right_comparison(definition, place, comparison):
    _, (kind, name), worth = comparison
    column = named_column(definition, name)
    if column is None or not _stands(kind, column, place):
        return False
    if isinstance(worth, str):
        return worth in choices_of(definition, column)
    return is_number_input(definition, column)


def _stands(kind, column, place):
    """Whether a reference to the column stands in the formula of the number column at this place [62]."""
    group, at = column
    if kind == "here":
        return group != COLUMNS or at < place
    return kind == "above" and group != INPUTS
