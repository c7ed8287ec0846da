"""The measures of number formulas [100]."""

from math import lcm

from foldsheet.columns import COLUMNS, INPUTS, name_of

CONSTANT = (0, 1, 1, 1)
ENTRY = (1, 1, 1, 1)


def measures(definition, formula, number):
    """Return degree, denominator, period and rounding period of a formula in the input with this number."""
    name = name_of(definition, (INPUTS, number))
    known = {each[1]: CONSTANT for each in definition[INPUTS]}
    known[name] = ENTRY
    for column, _, column_formula in definition[COLUMNS]:
        known[column] = _measured(column_formula, known)
    return _measured(formula, known)


def _measured(formula, known):
    """The measures of a formula, by those of the inputs and columns that it refers to in the same row."""
    degree, denominator, period, rounding = _by_table(formula, known)
    if degree == 0:
        return (0, denominator, 1, 1)
    return (degree, denominator, period, rounding)


def _by_table(formula, known):
    kind = formula[0]
    if kind == "number":
        return (0, formula[1][1], 1, 1)
    if kind == "here":
        return known[formula[1]]
    if kind == "above":
        return CONSTANT
    if kind == "/":
        return _of_quotient(_measured(formula[1], known), formula[2])
    if kind == "neg":
        return _measured(formula[1], known)
    if kind == "floor":
        degree, _, period, rounding = _measured(formula[1], known)
        return (degree, 1, period, lcm(rounding, period))
    # Of an "if" the condition, which is in front, plays no part.
    first = _measured(formula[-2], known)
    second = _measured(formula[-1], known)
    if kind == "*":
        return _of_product(first, second)
    return (max(first[0], second[0]),) + tuple([lcm(a, b) for a, b in zip(first[1:], second[1:])])


def _of_quotient(measured, divisor):
    degree, denominator, period, rounding = measured
    # The denominator of 1 / divisor is the numerator of the divisor.
    return (degree, denominator * divisor[0], period * denominator * divisor[0], rounding)


def _of_product(first, second):
    denominator = first[1] * second[1]
    return (first[0] + second[0], denominator, lcm(first[2], second[2]) * denominator, lcm(first[3], second[3]))
