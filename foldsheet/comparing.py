"""Whether two sheets agree in all tables, and the shortest table that shows it if they do not [200] to [202]."""

from foldsheet.columns import COLUMNS, RESULTS
from foldsheet.pairs import PairCalculator, check_inputs, search_pairs
from foldsheet.testrows import common_test_rows


def compare(first, second, *, only=None):
    """Return None if two sheets agree in all tables, otherwise the difference."""
    comparison = Comparison(first, second, only)
    listing = comparison.search()
    candidates = comparison.differences(listing.tables, listing.states)
    if not candidates:
        return None
    return min(candidates, key=lambda candidate: len(candidate[0]))


class Comparison:
    """Two sheets with the same inputs, their common test rows, and the outputs of theirs that are compared."""

    def __init__(self, first, second, only):
        check_inputs(first, second)
        self.rows = common_test_rows(first.definition, second.definition)
        self.calculator = PairCalculator(first.definition, second.definition)
        self._results = _compared_outputs(first, second, RESULTS, only)
        self._columns = _compared_outputs(first, second, COLUMNS, only)

    def search(self):
        """Return the listing of the tables by pairs of states, or raise TooLarge."""
        return search_pairs(self.calculator, self.rows)

    def differences(self, tables, pairs):
        """Return what differs in the tables, behind which these pairs of states are, and in a common row behind them.

        The results come first, and then the cells: tuples of the rows, the output and its two values.
        """
        found = []
        for table, pair in zip(tables, pairs):
            found.extend(_differences(table, self._results, self.calculator.results(pair)))
        for table, pair in zip(tables, pairs):
            for row in self.rows:
                found.extend(_differences(table + (row,), self._columns, self.calculator.step(pair, row)[1:]))
        return found


def _compared_outputs(first, second, group, only):
    """Triples of the name of a compared result or number column and its places in the two definitions."""
    names = [each[0] for each in first.definition[group]]
    others = [each[0] for each in second.definition[group]]
    return [(name, names.index(name), others.index(name))
            for name in names if name in others and (only is None or name in only)]


def _differences(table, outputs, told):
    """The differences in a table, if the values by the two sheets are told."""
    one, other = told
    return [(table, name, one[i], other[j]) for name, i, j in outputs if one[i] != other[j]]
