"""Why a formula of a definition is not permitted [62], [63], [64].

The place of a formula is the column or result that it belongs to, as a pair of a group and a place in this group;
the arguments of sums have one place of their own. A formula is examined from left to right, operands first, and
what is found first is its reason; None stands for no reason.
"""

from foldsheet.columns import COLUMNS, INPUTS, RESULTS, STATES, choices_of, is_number_input, named_column
from foldsheet.dependence import is_dependent
from foldsheet.formulas import REFERENCES, RELATIONS, operands_of

# The place of the arguments of sums, behind all columns, because they may refer to all of them.
IN_SUM = (4, 0)


def formula_reason(definition, dependent, place, formula):
    """Return the reason of the formula at a place, if it is told which number columns depend on earlier rows."""
    if place[0] == STATES:
        return _state_reason(definition, place, formula)
    return _number_reason(definition, dependent, place, formula)


def dependent_columns(definition):
    """Return a list that tells of each number column whether its formula depends on earlier rows."""
    many = len(definition[COLUMNS])
    dependent = [False] * many
    for at in range(many):
        formula = definition[COLUMNS][at][2]
        # A formula with a problem counts as one that does not depend on earlier rows.
        if formula_reason(definition, dependent, (COLUMNS, at), formula) is None:
            dependent[at] = is_dependent(definition, dependent, formula)
    return dependent


def _state_reason(definition, place, formula):
    kind = formula[0]
    if kind == "if":
        return (_condition_reason(definition, place, formula[1])
                or _state_reason(definition, place, formula[2])
                or _state_reason(definition, place, formula[3]))
    if kind in REFERENCES:
        return (_reference_reason(definition, place, formula, "choice")
                or _choices_reason(definition, place, choices_of(definition, named_column(definition, formula[1]))))
    if kind == "choice":
        return _choices_reason(definition, place, formula[1:])
    return "choice"


def _choices_reason(definition, column, choices):
    """The reason if some of the choices are none of the column's."""
    permitted = choices_of(definition, column)
    if all([choice in permitted for choice in choices]):
        return None
    return "choices"


def _number_reason(definition, dependent, place, formula):
    kind = formula[0]
    if kind == "choice":
        return "number"
    if kind in REFERENCES:
        return _reference_reason(definition, place, formula, "number")
    if kind == "sum":
        if place[0] != RESULTS:
            return "place"
        return _number_reason(definition, dependent, IN_SUM, formula[1])
    if kind == "if":
        return (_condition_reason(definition, place, formula[1])
                or _number_reason(definition, dependent, place, formula[2])
                or _number_reason(definition, dependent, place, formula[3]))
    for operand in operands_of(formula):
        reason = _number_reason(definition, dependent, place, operand)
        if reason is not None:
            return reason
    return _operation_reason(definition, dependent, formula)


def _operation_reason(definition, dependent, formula):
    """The reason of an operation whose operands have none."""
    if formula[0] not in ("*", "floor"):
        return None
    if not all([is_dependent(definition, dependent, operand) for operand in operands_of(formula)]):
        return None
    if formula[0] == "*":
        return "product"
    return "rounding"


def _condition_reason(definition, place, condition):
    if condition[0] in RELATIONS:
        return _comparison_reason(definition, place, condition)
    for operand in operands_of(condition):
        reason = _condition_reason(definition, place, operand)
        if reason is not None:
            return reason
    return None


def _comparison_reason(definition, place, comparison):
    _, reference, worth = comparison
    column = named_column(definition, reference[1])
    if isinstance(worth, str):
        return (_reference_reason(definition, place, reference, "choice")
                or _choices_reason(definition, column, (worth,)))
    if column is None:
        return "unknown"
    if not _is_entry(reference, column):
        return "number input"
    if not _stands(place, reference, column):
        return "place"
    if not is_number_input(definition, column):
        return "number input"
    return None


def _reference_reason(definition, place, reference, wanted):
    """The reason of a reference where a value of a kind, "number" or "choice", is wanted."""
    column = named_column(definition, reference[1])
    if column is None:
        return "unknown"
    stands = _stands(place, reference, column)
    # A reference to an input that does not stand is at a wrong place, whatever the input's kind.
    if _kind_of(definition, column) != wanted and (stands or column[0] != INPUTS):
        return wanted
    if not stands:
        return "place"
    return None


def _kind_of(definition, column):
    if column[0] == COLUMNS or is_number_input(definition, column):
        return "number"
    return "choice"


def _is_entry(reference, column):
    return reference[0] == "here" and column[0] == INPUTS


def _stands(place, reference, column):
    """Whether a reference to a column stands in the formula at a place [62]."""
    kind = reference[0]
    outside_of_sums = place[0] == RESULTS
    if (kind == "last") != outside_of_sums:
        return False
    if kind == "here":
        # Columns and places are ordered as they are in a definition.
        return column < place
    return column[0] != INPUTS
