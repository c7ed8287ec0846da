"""The needs of a definition: what decides how many test values an input has [101], [102]."""

from math import lcm

from foldsheet.columns import COLUMNS, INPUTS, STATES, is_number_input
from foldsheet.definitions import sums_of
from foldsheet.formulas import RELATIONS, parts_of
from foldsheet.measures import measures


def needs(definition):
    """Return the tuple of the needs of the inputs of a definition, in order."""
    return needs_of(definition)


def needs_of(definition):
    """Return what `needs` returns, under a name that can be imported where `needs` is a parameter."""
    return tuple([_need(definition, number) for number in range(len(definition[INPUTS]))])


def joined_needs(first, second):
    """Return the joined needs of two tuples of needs of the same inputs."""
    return tuple([_joined(one, other) for one, other in zip(first, second)])


def _joined(one, other):
    if one is None:
        return None
    return (max(one[0], other[0]), lcm(one[1], other[1]), _ascending(one[2] + other[2]))


def _need(definition, number):
    if not is_number_input(definition, (INPUTS, number)):
        return None
    columns = [formula for _, _, formula in definition[COLUMNS]]
    measured = [measures(definition, formula, number) for formula in columns + list(sums_of(definition))]
    degree = max([each[0] for each in measured], default=0)
    period = 1
    for each in measured:
        period = lcm(period, each[3])
    return (degree, period, _thresholds(definition, number))


def _thresholds(definition, number):
    _, name, low, high = definition[INPUTS][number]
    states = [formula for _, _, _, formula in definition[STATES]]
    columns = [formula for _, _, formula in definition[COLUMNS]]
    parts = [part for formula in states + columns + list(sums_of(definition)) for part in parts_of(formula)]
    compared = [part for part in parts if part[0] in RELATIONS and part[1] == ("here", name)]
    beginnings = [value for relation, _, whole in compared for value in _beginnings(relation, whole)]
    return _ascending([value for value in beginnings if low < value <= high])


def _beginnings(relation, whole):
    """The integers at which a comparison with an integer may begin to hold, or not to hold."""
    if relation in ("<", ">="):
        return (whole,)
    if relation in ("<=", ">"):
        return (whole + 1,)
    return (whole, whole + 1)


def _ascending(values):
    """The tuple of the values, each once, ascending."""
    return tuple(sorted(set(values)))
