"""Whether two sheets agree in all tables, and the shortest table that shows it if they do not [200] to [202]."""

from foldsheet.columns import COLUMNS, RESULTS
from foldsheet.pairs import PairCalculator, check_inputs, search_pairs
from foldsheet.testrows import common_test_rows


def compare(first, second, *, only=None):
    """Return None if two sheets agree in all tables, otherwise the difference."""
    check_inputs(first, second)
    rows = common_test_rows(first.definition, second.definition)
    calculator = PairCalculator(first.definition, second.definition)
    listing = search_pairs(calculator, rows)
    results = compared_outputs(first, second, RESULTS, only)
    columns = compared_outputs(first, second, COLUMNS, only)
    candidates = []
    for table, pair in zip(listing.tables, listing.states):
        candidates.extend(_differences(table, results, calculator.results(pair)))
    for table, pair in zip(listing.tables, listing.states):
        for row in rows:
            candidates.extend(_differences(table + (row,), columns, calculator.step(pair, row)[1:]))
    if not candidates:
        return None
    return min(candidates, key=lambda candidate: len(candidate[0]))


def compared_outputs(first, second, group, only):
    """Return triples of the name of a compared result or number column and its places in the two definitions."""
    names = [each[0] for each in first.definition[group]]
    others = [each[0] for each in second.definition[group]]
    return [(name, names.index(name), others.index(name))
            for name in names if name in others and (only is None or name in only)]


def _differences(table, outputs, told):
    """The differences in a table, if the values by the two sheets are told."""
    one, other = told
    return [(table, name, one[i], other[j]) for name, i, j in outputs if one[i] != other[j]]
