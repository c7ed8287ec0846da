"""Arbitrary definitions and tables for tests, the same ones in every run."""

from fractions import Fraction

from foldsheet.definitions import carried, sums_of
from foldsheet.reader import read_formula
from foldsheet.rules import problems
from tests.model import pair

CHOICES = ("a", "b", "c")
SMALL = ((0, 1), (1, 1), (2, 1), (1, 2), (3, 1), (1, 3))


def number_input(name, low, high):
    return ("number", name, low, high)


def choice_input(name, *choices):
    return ("choice", name, choices)


def state(name, text, choices=("in", "out"), first=None):
    return (name, choices, choices[0] if first is None else first, read_formula(text))


def column(name, text, first=(0, 1)):
    return (name, first, read_formula(text))


def result(name, text):
    return (name, read_formula(text))


class Maker:
    """Makes right definitions whose formulas have every kind of formula and condition."""

    def __init__(self, dice, inputs=None):
        self.dice = dice
        self.inputs = self.some_inputs() if inputs is None else inputs
        self.states = []
        self.columns = []
        many = dice.choice((0, 0, 1, 1, 2)), dice.choice((0, 1, 1, 2, 3)), dice.choice((0, 1, 1, 2, 2))
        self.later_states = [f"s{k}" for k in range(many[0])]
        self.later_columns = [f"c{k}" for k in range(many[1])]
        for name in self.later_states:
            self.states.append((name, CHOICES, dice.choice(CHOICES), self.choice_formula(2)))
        for name in self.later_columns:
            self.columns.append((name, dice.choice(SMALL), self.number_formula(dice.randint(0, 3), True)))
        self.results = [(f"r{k}", self.result_formula(dice.randint(0, 2))) for k in range(many[2])]

    def definition(self):
        return (tuple(self.inputs), tuple(self.states), tuple(self.columns), tuple(self.results))

    def some_inputs(self):
        dice = self.dice
        numbers = [number_input(f"x{k}", *sorted(dice.sample(range(-4, 12), 2))) for k in range(dice.randint(0, 2))]
        choices = [choice_input(f"k{k}", *CHOICES[:dice.randint(1, 3)]) for k in range(dice.randint(0, 1))]
        found = numbers + choices or [number_input("x", 0, dice.randint(0, 9))]
        dice.shuffle(found)
        return found

    def choice_references(self):
        """References to choices that stand in a row, and the choices that they can be compared with."""
        here = [(("here", each[1]), each[2]) for each in self.inputs if each[0] == "choice"]
        here += [(("here", each[0]), CHOICES) for each in self.states]
        return here + [(("above", name), CHOICES) for name in self.later_states]

    def comparison(self, last=False):
        dice = self.dice
        numbers = [each for each in self.inputs if each[0] == "number"]
        choices = [(("last", each[0]), CHOICES) for each in self.states] if last else self.choice_references()
        if choices and (last or not numbers or dice.random() < 0.6):
            reference, permitted = dice.choice(choices)
            return (dice.choice(("=", "<>")), reference, dice.choice(permitted))
        if last or not numbers:
            return None
        _, name, low, high = dice.choice(numbers)
        return (dice.choice(("<", "<=", "=", "<>", ">=", ">")), ("here", name), dice.randint(low - 1, high + 1))

    def condition(self, depth, last=False):
        kind = self.dice.choice(("compare", "compare", "not", "and", "or")) if depth else "compare"
        if kind == "compare":
            return self.comparison(last)
        operands = [self.condition(depth - 1, last) for _ in range(1 if kind == "not" else 2)]
        return None if None in operands else (kind, *operands)

    def choice_formula(self, depth):
        dice = self.dice
        if depth and dice.random() < 0.6:
            condition = self.condition(1)
            if condition is not None:
                return ("if", condition, self.choice_formula(depth - 1), self.choice_formula(depth - 1))
        references = [each for each, _ in self.choice_references()]
        return dice.choice(references) if references and dice.random() < 0.6 else ("choice", dice.choice(CHOICES))

    def leaf(self, dependent, columns):
        dice = self.dice
        leaves = [("number", dice.choice(((0, 1), (1, 1), (2, 1), (1, 2), (5, 4))))]
        leaves += 2 * [("here", each[1]) for each in self.inputs if each[0] == "number"]
        if dependent:
            leaves += [("here", name) for name in columns] + 2 * [("above", name) for name in self.later_columns]
        return dice.choice(leaves)

    def number_formula(self, depth, dependent, whole=False):
        """A formula of a row; `dependent` tells whether it may depend on earlier rows."""
        dice = self.dice
        columns = self.later_columns if whole else [each[0] for each in self.columns]
        if depth == 0:
            return self.leaf(dependent, columns)
        kind = dice.choice(("+", "+", "-", "*", "neg", "/", "floor", "if", "if"))
        if kind == "/":
            divisor = dice.choice(((2, 1), (3, 1), (1, 2), (5, 4)))
            return (kind, self.number_formula(depth - 1, dependent, whole), divisor)
        if kind == "floor":
            return (kind, self.number_formula(depth - 1, False, whole))
        if kind == "neg":
            return (kind, self.number_formula(depth - 1, dependent, whole))
        condition = self.condition(1) if kind == "if" else None
        one = self.number_formula(depth - 1, dependent, whole)
        other = self.number_formula(depth - 1, dependent and kind != "*", whole)
        if kind == "if" and condition is None:
            return ("+", one, other)
        operands = (one, other) if dice.random() < 0.5 else (other, one)
        return (kind, condition, *operands) if kind == "if" else (kind, *operands)

    def result_formula(self, depth):
        dice = self.dice
        if depth == 0:
            leaves = [("last", name) for name in self.later_columns] + [("number", dice.choice(SMALL[:3]))]
            if dice.random() < 0.6:
                return ("sum", self.number_formula(dice.randint(0, 2), True, True))
            return dice.choice(leaves)
        kind = dice.choice(("+", "-", "*", "neg", "/", "if"))
        if kind == "neg":
            return (kind, self.result_formula(depth - 1))
        if kind == "/":
            return (kind, self.result_formula(depth - 1), (3, 2))
        condition = self.condition(1, last=True) if kind == "if" else None
        if kind == "*":
            return (kind, ("number", dice.choice(SMALL[:5])), self.result_formula(depth - 1))
        operands = (self.result_formula(depth - 1), self.result_formula(depth - 1))
        if kind == "if" and condition is None:
            return ("+", *operands)
        return (kind, condition, *operands) if kind == "if" else (kind, *operands)


def right_definition(dice, inputs=None):
    """An arbitrary definition without problems."""
    while True:
        found = Maker(dice, inputs).definition()
        if not problems(found):
            return found


def any_row(dice, definition):
    return tuple(dice.choice(each[2]) if each[0] == "choice" else dice.randint(each[2], each[3])
                 for each in definition[0])


def any_table(dice, definition, most):
    return tuple(any_row(dice, definition) for _ in range(dice.randint(0, most)))


def any_fraction(dice):
    return pair(Fraction(dice.randint(-20, 20), dice.randint(1, 6)))


def any_state(dice, definition):
    """A state that need not be behind any table."""
    words = {each[0]: each[1] for each in definition[1]}
    states, numbers = carried(definition)
    many = len(numbers) + len(sums_of(definition))
    return (tuple(dice.choice(words[name]) for name in states), tuple(any_fraction(dice) for _ in range(many)))
