"""Whether a result depends on the order of the rows, or on the entries of an input [220], [221], [222]."""

from foldsheet.calculating import Calculator
from foldsheet.columns import named_column
from foldsheet.endings import list_endings, listed_endings
from foldsheet.frames import StateFrame, weighted_sum


def endings_of(sheet, result):
    """Return the tuple of the endings of the result, or raise TooLarge."""
    return listed_endings(sheet.definition, sheet.listed, (((), result),))


def order_dependence(sheet, result):
    """Return the shortest exchange of two neighbouring rows that changes the result, or None."""
    pairs = _pairs_of_rows(sheet)
    return _shortest_candidate(sheet, result, [((r, t), (r, t), (t, r)) for r, t in pairs])


def input_dependence(sheet, result, column):
    """Return the shortest change of an entry of the input that changes the result, or None."""
    _, at = named_column(sheet.definition, column)
    pairs = [(r, t) for r, t in _pairs_of_rows(sheet) if r[:at] + r[at + 1:] == t[:at] + t[at + 1:]]
    return _shortest_candidate(sheet, result, [((r, t), (r,), (t,)) for r, t in pairs])


def _pairs_of_rows(sheet):
    """All pairs of test rows of which the first one comes before the second one."""
    rows = sheet.test_rows
    return [(r, t) for at, r in enumerate(rows) for t in rows[at + 1:]]


def _shortest_candidate(sheet, result, compared):
    """The candidate with the fewest rows, the first one of several, or None.

    What is compared are triples: the pair of rows that is told, and the rows that stand there for x and for y.
    """
    calculator = Calculator(sheet.definition)
    states = [calculator.behind(calculator.start(), table) for table in sheet.listed]
    listing = list_endings(calculator, states, (((), result),), sheet.test_rows)
    frame = StateFrame(states)
    candidates = []
    for table, state in zip(sheet.listed, states):
        differing = _differing(calculator, frame, state, compared)
        for (behind, _), values in zip(listing.found, listing.told):
            found = _first_difference(differing, values)
            if found is not None:
                told, x, y = found
                candidates.append((table, told, behind, x, y))
    if not candidates:
        return None
    return min(candidates, key=lambda candidate: len(candidate[0]) + len(candidate[2]))


def _differing(calculator, frame, state, compared):
    """The pairs of rows with which the states behind differ, and the weights of these states by the listed tables."""
    found = []
    for told, rows, others in compared:
        one = calculator.behind(state, rows)
        other = calculator.behind(state, others)
        if one != other:
            found.append((told, frame.weights(one), frame.weights(other)))
    return found


def _first_difference(differing, values):
    """The first pair of rows, and its two results, behind which an ending with these values by the tables differs."""
    for told, weights, others in differing:
        x = weighted_sum(weights, values)
        y = weighted_sum(others, values)
        if x != y:
            return (told, x, y)
    return None
