"""Tables calculated as a spreadsheet is: every value is looked up where the formulas say, and nothing is carried on.

It shares no code with the program, and calculates with Python's own fractions.
"""

import operator
from fractions import Fraction

RELATIONS = {"<": operator.lt, "<=": operator.le, "=": operator.eq, "<>": operator.ne, ">=": operator.ge,
             ">": operator.gt}


class Table:
    """The values of all columns and results of a definition in a table of rows."""

    def __init__(self, definition, rows):
        inputs, self.states, self.columns, self.results = definition
        self.inputs = {each[1]: at for at, each in enumerate(inputs)}
        self.formulas = {each[0]: each[-1] for each in self.states + self.columns}
        self.firsts = {name: first for name, _, first, _ in self.states}
        self.firsts.update({name: Fraction(*first) for name, first, _ in self.columns})
        self.rows = rows
        self.known = {}

    def column(self, name, at):
        """The value of a column in row `at`; the row above the first one has the first values."""
        if name in self.inputs:
            entry = self.rows[at][self.inputs[name]]
            return entry if isinstance(entry, str) else Fraction(entry)
        if at < 0:
            return self.firsts[name]
        if (name, at) not in self.known:
            self.known[name, at] = self.value(self.formulas[name], at)
        return self.known[name, at]

    def reference(self, reference, at):
        kind, name = reference
        return self.column(name, {"here": at, "above": at - 1, "last": len(self.rows) - 1}[kind])

    def value(self, formula, at):
        kind = formula[0]
        if kind == "number":
            return Fraction(*formula[1])
        if kind == "choice":
            return formula[1]
        if kind in ("here", "above", "last"):
            return self.reference(formula, at)
        if kind == "sum":
            return sum([self.value(formula[1], each) for each in range(len(self.rows))], Fraction(0))
        if kind == "if":
            return self.value(formula[2 if self.holds(formula[1], at) else 3], at)
        if kind == "neg":
            return -self.value(formula[1], at)
        if kind == "floor":
            return Fraction(self.value(formula[1], at) // 1)
        if kind == "/":
            return self.value(formula[1], at) / Fraction(*formula[2])
        action = {"+": operator.add, "-": operator.sub, "*": operator.mul}[kind]
        return action(self.value(formula[1], at), self.value(formula[2], at))

    def holds(self, condition, at):
        kind = condition[0]
        if kind == "not":
            return not self.holds(condition[1], at)
        if kind in ("and", "or"):
            both = [self.holds(each, at) for each in condition[1:]]
            return all(both) if kind == "and" else any(both)
        return RELATIONS[kind](self.reference(condition[1], at), condition[2])

    def cells(self, at):
        return tuple(pair(self.column(name, at)) for name, _, _ in self.columns)

    def choices(self, at):
        return tuple(self.column(name, at) for name, _, _, _ in self.states)

    def totals(self):
        """The results."""
        return tuple(pair(self.value(formula, len(self.rows) - 1)) for _, formula in self.results)

    def output(self, name):
        """A result, or the cell of a number column in the last row."""
        for each, formula in self.results:
            if each == name:
                return pair(self.value(formula, len(self.rows) - 1))
        return pair(self.column(name, len(self.rows) - 1))


def pair(number):
    number = Fraction(number)
    return (number.numerator, number.denominator)


def exact(numbers):
    return tuple(Fraction(*number) for number in numbers)


def pairs(numbers):
    return tuple(pair(number) for number in numbers)


def all_cells(definition, rows):
    """The cells of all rows, and the results."""
    table = Table(definition, rows)
    return tuple(table.cells(at) for at in range(len(rows))), table.totals()


def mixed(weights, points):
    """The sum of points, each times its weight."""
    return pairs(sum([Fraction(*w) * Fraction(*p[at]) for w, p in zip(weights, points)], Fraction(0))
                 for at in range(len(points[0])))


def rank(rows):
    """The rank, by elimination from the last place on."""
    rows = [list(row) for row in rows if any(row)]
    found = 0
    while rows:
        pivot = rows.pop()
        at = max(k for k, number in enumerate(pivot) if number)
        rows = [[x - row[at] / pivot[at] * y for x, y in zip(row, pivot)] for row in rows]
        rows = [row for row in rows if any(row)]
        found += 1
    return found


def is_linear(target, points):
    """Whether a tuple of Python's fractions is a linear combination of others."""
    return rank(list(points) + [target]) == rank(points)


def is_affine(target, points):
    """Whether a tuple of Python's fractions is an affine combination of others."""
    one = (Fraction(1),)
    return is_linear(tuple(target) + one, [tuple(point) + one for point in points])


def state_behind(definition, carried, rows):
    """The choices and the numbers of the state behind the rows, if the names of the carried columns are told."""
    table = Table(definition, rows)
    last = len(rows) - 1
    sums = [part for _, formula in definition[3] for part in sums_in(formula)]
    return (tuple(table.column(name, last) for name in carried[0]),
            tuple(table.column(name, last) for name in carried[1]) + tuple(table.value(each, last) for each in sums))


def sums_in(formula):
    if formula[0] == "sum":
        return [formula]
    return [each for part in formula[1:] if isinstance(part, tuple) and part and isinstance(part[0], str)
            for each in sums_in(part)]


def listed_by(rows, state_of):
    """The tables that are listed, if it is told what the state behind a table of rows is."""
    found = [()]
    states = [state_of(())]
    for table in found:
        for row in rows:
            choices, numbers = state_of(table + (row,))
            if not is_affine(numbers, [each[1] for each in states if each[0] == choices]):
                found.append(table + (row,))
                states.append((choices, numbers))
    return tuple(found)


def ending_value(definition, rows, ending):
    return Table(definition, rows + ending[0]).output(ending[1])


def endings_by(definition, tables, candidates, rows):
    """The endings that are listed from the candidates by the tables, extended by the rows."""
    ones = tuple(Fraction(1) for _ in tables)
    found, known = [], [ones]

    def consider(ending):
        values = exact(ending_value(definition, table, ending) for table in tables)
        if not is_linear(values, known):
            found.append(ending)
            known.append(values)

    for candidate in candidates:
        consider(candidate)
    for ending in found:
        for row in rows:
            consider(((row,) + ending[0], ending[1]))
    return tuple(found)
