"""Arbitrary texts and formulas for tests, the same ones in every run."""

from decimal import Decimal

from foldsheet.tokens import split_text
from tests.grammar import sort_of, taken

SPELLINGS = (
    "a", "b1", "last", "if", "(", ")", ",", "+", "-", "*", "/", "floor", "sum", "not", "and", "or", "<", "<=", "=",
    "<>", ">=", ">", "0", "0.0", "00", "7", "007.0", "1.5", '"x y"', "[-1]",
)
OPENERS = (
    "(", "-", "floor(", "sum(", "if(a = 1, 0, ", "a + (", "2 * -", "if(a < -1 or last(b) > 0, a, ", "last(a) - (",
)
CONDITION_OPENERS = ("not ", "(", "a = 1 and not ", "a = 1 or (", "last(b) >= 2 and (")
LEAVES = (
    ("number", (0, 1)), ("number", (12, 1)), ("number", (1, 4)), ("number", (999999999, 10)), ("choice", "x y"),
    ("choice", "if"), ("here", "a"), ("here", "floors"), ("above", "b1"), ("last", "c"),
)
FACTORS = ((1, 1), (2, 1), (5, 2), (1, 100000000), (999999999, 1))
COMPARISONS = (
    ("<", ("here", "a"), 0), ("<=", ("above", "b1"), -999999999), ("=", ("last", "c"), 999999999),
    ("<>", ("here", "a"), -1), (">=", ("here", "a"), 5), (">", ("above", "a"), 7), ("=", ("here", "k"), "in"),
    ("<>", ("last", "k"), "and"),
)


def opening_text(dice, levels):
    """A text that opens so many levels, and expects a formula or, some times, a condition."""
    text = ""
    inside = dice.randint(0, 3)
    if inside and levels > inside:
        text = "".join(dice.choice(OPENERS) for _ in range(levels - inside - 1))
        return text + "if(" + "".join(dice.choice(CONDITION_OPENERS) for _ in range(inside))
    return text + "".join(dice.choice(OPENERS) for _ in range(levels))


def wandering_text(dice, beginning, many, most=20):
    """A text of tokens most of which can follow those before them."""
    text = beginning
    stacks = [(("formula", 0), None)]
    for token in split_text(beginning):
        stacks, _ = taken(stacks, sort_of(token), most)
    for _ in range(many):
        for _ in range(60):
            spelling = dice.choice(SPELLINGS)
            behind, _ = taken(stacks, sort_of(split_text(spelling)[0]), most)
            if behind or dice.random() < 0.002:
                break
        text += " " * dice.randint(1, 2) + spelling
        stacks = behind
    return text + " " * dice.randint(0, 2)


def any_formula(dice, depth):
    """An arbitrary formula of at most this depth, with every kind of formula and condition in it."""
    if depth <= 1 or dice.random() < 0.1:
        return dice.choice(LEAVES)
    kind = dice.choice(("+", "-", "*", "/", "neg", "floor", "sum", "if"))
    if kind == "/":
        return (kind, any_formula(dice, depth - 1), dice.choice(FACTORS))
    if kind in ("neg", "floor", "sum"):
        return (kind, any_formula(dice, depth - 1))
    operands = (any_formula(dice, depth - 1), any_formula(dice, depth - 1))
    if kind == "if":
        return (kind, any_condition(dice, depth - 1)) + operands
    return (kind,) + operands


def any_condition(dice, depth):
    if depth <= 1 or dice.random() < 0.1:
        return dice.choice(COMPARISONS)
    kind = dice.choice(("not", "and", "or"))
    if kind == "not":
        return (kind, any_condition(dice, depth - 1))
    return (kind, any_condition(dice, depth - 1), any_condition(dice, depth - 1))


def enclosed_text(part):
    """A text of a formula or a condition in which parentheses stand around every operand that may have them."""
    kind = part[0]
    if kind == "number":
        n, d = part[1]
        return f"{Decimal(n) / Decimal(d):f}"
    if kind == "choice":
        return f'"{part[1]}"'
    if kind in ("here", "above", "last"):
        return {"here": part[1], "above": part[1] + " [-1]", "last": f"last ( {part[1]} )"}[kind]
    if kind in ("<", "<=", "=", "<>", ">=", ">"):
        worth = f'"{part[2]}"' if isinstance(part[2], str) else str(part[2])
        return f"{enclosed_text(part[1])} {kind} {worth}"
    if kind == "/":
        return f"({enclosed_text(part[1])}) / {enclosed_text(('number', part[2]))}"
    if kind in ("neg", "not", "floor", "sum"):
        return f"{'-' if kind == 'neg' else kind}({enclosed_text(part[1])})"
    if kind == "if":
        return "if(" + ", ".join(enclosed_text(each) for each in part[1:]) + ")"
    return f"({enclosed_text(part[1])}) {kind} ({enclosed_text(part[2])})"
