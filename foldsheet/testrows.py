"""Test rows, which represent all rows [103], [104], and the weights by which they do [105]."""

from foldsheet.columns import INPUTS
from foldsheet.errors import TooLarge
from foldsheet.fractions import ONE, ZERO, fraction, multiplied
from foldsheet.needs import joined_needs, needs_of

MOST_ROWS = 24


def test_values(inputs, needs):
    """Return for each input the tuple of its test values."""
    return tuple([_values(column, need) for column, need in zip(inputs, needs)])


def each_row(values):
    """Yield each row with an entry of each tuple of entries, the first entry changing slowest."""
    if not values:
        yield ()
        return
    others = values[1:]
    for entry in values[0]:
        for row in each_row(others):
            yield (entry,) + row


def test_rows(definition):
    """Return the tuple of the test rows of a right definition."""
    return _rows(definition[INPUTS], needs_of(definition))


def common_test_rows(first, second):
    """Return the tuple of the common test rows of two right definitions with the same inputs, or raise TooLarge."""
    joined = joined_needs(needs_of(first), needs_of(second))
    if count_rows(first[INPUTS], joined) > MOST_ROWS:
        raise TooLarge("too many common test rows")
    return _rows(first[INPUTS], joined)


def row_weights(inputs, needs, row):
    """Return the tuple of the weights of the row, one for each test row, in their order."""
    weights = [ONE]
    for column, need, entry in zip(inputs, needs, row):
        own = _entry_weights(column, need, entry)
        weights = [multiplied(weight, each) for weight in weights for each in own]
    return tuple(weights)


def count_rows(inputs, needs):
    """Return the number of the test rows, of which there may be far too many to be listed."""
    many = 1
    for column, need in zip(inputs, needs):
        if need is None:
            many *= len(column[2])
        else:
            many *= sum([stop - start for start, stop in _pieces(column, need)])
    return many


def _rows(inputs, needs):
    values = test_values(inputs, needs)
    return tuple(each_row(values))


def _values(column, need):
    if need is None:
        return column[2]
    return tuple([value for start, stop in _pieces(column, need) for value in range(start, stop)])


def _pieces(column, need):
    """For each piece of a number input the first one of its test values and the integer behind the last one."""
    _, _, low, high = column
    degree, period, thresholds = need
    starts = (low,) + thresholds
    ends = thresholds + (high + 1,)
    return [(start, min(start + (degree + 1) * period, end)) for start, end in zip(starts, ends)]


def _entry_weights(column, need, entry):
    """The weights of an entry for the test values of its input, in order."""
    values = _values(column, need)
    if entry in values:
        return [ONE if value == entry else ZERO for value in values]
    start = max([start for start, _ in _pieces(column, need) if start <= entry])
    degree, period, _ = need
    steps, rest = divmod(entry - start, period)
    # Along steps of the period what depends on the entry is a polynomial of the degree, found from degree + 1 values.
    known = {start + rest + k * period: _interpolating(steps, k, degree) for k in range(degree + 1)}
    return [known.get(value, ZERO) for value in values]


def _interpolating(at, k, degree):
    """The value at a place of the polynomial that is 1 at k and 0 at all other integers from 0 to the degree."""
    above = 1
    below = 1
    for j in range(degree + 1):
        if j != k:
            above *= at - j
            below *= k - j
    return fraction(above, below)
