"""The printed form of formulas, with no more parentheses than needed [46]."""

from foldsheet.formulas import REFERENCES, RELATIONS

SUMS = ("+", "-")
PRODUCTS = ("*", "/")
DISJUNCTION = ("or",)
CONJUNCTION = ("and",)


def show_formula(formula):
    """Return the printed form of the formula."""
    kind = formula[0]
    if kind == "number":
        return _decimal(formula[1])
    if kind == "choice":
        return _quoted(formula[1])
    if kind in REFERENCES:
        return _reference(formula)
    if kind in SUMS:
        return f"{show_formula(formula[1])} {kind} {_operand(formula[2], SUMS)}"
    if kind == "*":
        return f"{_operand(formula[1], SUMS)} * {_operand(formula[2], SUMS + PRODUCTS)}"
    if kind == "/":
        return f"{_operand(formula[1], SUMS)} / {_decimal(formula[2])}"
    if kind == "neg":
        return f"-{_operand(formula[1], SUMS + PRODUCTS)}"
    if kind == "if":
        return f"if({_condition(formula[1])}, {show_formula(formula[2])}, {show_formula(formula[3])})"
    return f"{kind}({show_formula(formula[1])})"


def _operand(formula, enclosed):
    """The printed form of an operand, in parentheses if it is of these kinds."""
    if formula[0] in enclosed:
        return f"({show_formula(formula)})"
    return show_formula(formula)


def _condition(condition):
    kind = condition[0]
    if kind in RELATIONS:
        return f"{_reference(condition[1])} {kind} {_compared_with(condition[2])}"
    if kind == "not":
        return f"not {_term(condition[1], DISJUNCTION + CONJUNCTION)}"
    if kind == "and":
        return f"{_term(condition[1], DISJUNCTION)} and {_term(condition[2], DISJUNCTION + CONJUNCTION)}"
    return f"{_condition(condition[1])} or {_term(condition[2], DISJUNCTION)}"


def _term(condition, enclosed):
    if condition[0] in enclosed:
        return f"({_condition(condition)})"
    return _condition(condition)


def _compared_with(worth):
    if isinstance(worth, str):
        return _quoted(worth)
    return str(worth)


def _reference(reference):
    kind, name = reference
    if kind == "above":
        return f"{name}[-1]"
    if kind == "last":
        return f"last({name})"
    return name


def _quoted(choice):
    return f'"{choice}"'


def _decimal(number):
    """A short number as a number token writes it, found by long division."""
    whole, rest = divmod(number[0], number[1])
    decimals = ""
    while rest:
        digit, rest = divmod(rest * 10, number[1])
        decimals += str(digit)
    if decimals:
        return f"{whole}.{decimals}"
    return str(whole)
