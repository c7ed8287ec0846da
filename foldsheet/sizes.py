"""The size of a definition [66]."""

from foldsheet.columns import COLUMNS, INPUTS, RESULTS
from foldsheet.definitions import sums_of


def size_of(definition):
    """Return the size of a definition."""
    sizes = _input_sizes(definition)
    total = 0
    for name, _, formula in definition[COLUMNS]:
        size = _size(formula, sizes)
        sizes.setdefault(name, size)
        total += size
    results = [formula for _, formula in definition[RESULTS]]
    return total + sum([_size(formula, sizes) for formula in list(sums_of(definition)) + results])


def _input_sizes(definition):
    """A dict of the names of the number inputs and the size that each has in a formula."""
    inputs = [column for column in definition[INPUTS] if column[0] == "number"]
    return {name: _digits(max(abs(low), abs(high))) + 1 for _, name, low, high in inputs}


def _size(formula, sizes):
    """The size of a formula, by the sizes of the columns that it refers to in the same row."""
    kind = formula[0]
    if kind == "number":
        return _digits_of_both(formula[1])
    if kind == "here":
        return sizes[formula[1]]
    if kind in ("above", "last", "sum"):
        return 1
    if kind == "/":
        return _size(formula[1], sizes) + _digits_of_both(formula[2])
    if kind == "neg":
        return _size(formula[1], sizes)
    if kind == "floor":
        return _size(formula[1], sizes) + 1
    # Of an "if" the condition, which is in front, does not count.
    return _size(formula[-2], sizes) + _size(formula[-1], sizes)


def _digits_of_both(number):
    return _digits(number[0]) + _digits(number[1])


def _digits(whole):
    return len(str(abs(whole)))
