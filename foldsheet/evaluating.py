"""Values of formulas and conditions [41], if it is known what their references stand for.

The values of references are a dict: the value of a reference, as it stands in the formula, is what it gives for it.
"""

from foldsheet.formulas import REFERENCES, operands_of
from foldsheet.fractions import added, divided, floor_of, multiplied, negated, subtracted


def value_of(formula, values):
    """Return the value of a formula: a fraction or a choice."""
    kind = formula[0]
    if kind in REFERENCES or kind == "sum":
        return values[formula]
    if kind in ("number", "choice"):
        return formula[1]
    if kind == "if":
        if holds(formula[1], values):
            return value_of(formula[2], values)
        return value_of(formula[3], values)
    return _applied(formula, values)


def holds(condition, values):
    """Return whether a condition holds."""
    kind = condition[0]
    if kind == "not":
        return not holds(condition[1], values)
    if kind == "and":
        return holds(condition[1], values) and holds(condition[2], values)
    if kind == "or":
        return holds(condition[1], values) or holds(condition[2], values)
    _, reference, worth = condition
    if isinstance(worth, str):
        return (values[reference] == worth) == (kind == "=")
    # The value is that of a number input, a whole number.
    return _compares(values[reference][0], kind, worth)


def numbered_sums(formula, first):
    """Return the formula with the number of each sum in the place of its argument, counted on from the first one's.

    So a sum is looked up as references are, and two sums with the same argument can have two values.
    """
    if formula[0] == "sum":
        return ("sum", first)
    operands = ()
    for operand in operands_of(formula):
        changed = numbered_sums(operand, first)
        operands += (changed,)
        first += count_sums(changed)
    return formula[:1] + operands + formula[1 + len(operands):]


def count_sums(formula):
    """Return the number of sums in a formula."""
    if formula[0] == "sum":
        return 1
    return sum([count_sums(operand) for operand in operands_of(formula)])


def _applied(formula, values):
    """The value of a formula that is an operation with numbers."""
    kind = formula[0]
    first = value_of(formula[1], values)
    if kind == "neg":
        return negated(first)
    if kind == "floor":
        return (floor_of(first), 1)
    if kind == "/":
        return divided(first, formula[2])
    second = value_of(formula[2], values)
    if kind == "+":
        return added(first, second)
    if kind == "-":
        return subtracted(first, second)
    return multiplied(first, second)


def _compares(whole, relation, bound):
    if relation == "<":
        return whole < bound
    if relation == "<=":
        return whole <= bound
    if relation == "=":
        return whole == bound
    if relation == "<>":
        return whole != bound
    if relation == ">=":
        return whole >= bound
    return whole > bound
