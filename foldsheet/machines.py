"""Machines: sheets without formulas and names, by which all tables can be calculated [320] to [323]."""

from foldsheet.columns import INPUTS
from foldsheet.fractions import ZERO
from foldsheet.frames import Frame, combination
from foldsheet.needs import needs_of
from foldsheet.testrows import row_weights


def machine(sheet):
    """Return the machine of the sheet: its inputs, needs, points, outcomes and steps."""
    definition = sheet.definition
    steps = tuple([sheet.steps(row) for row in sheet.test_rows])
    return (definition[INPUTS], needs_of(definition), sheet.points, sheet.outcomes(), steps)


def run_machine(machine, table):
    """Return for each row of the table its cells, and the tuple of the results."""
    _, _, points, _, _ = machine
    runner = Runner(machine)
    told, point = runner.behind(points[0], table)
    return (told, runner.results(point))


def machine_fold(machine, table):
    """Return the fold of the table by the machine."""
    _, _, points, _, _ = machine
    runner = Runner(machine)
    return tuple([runner.behind(point, table)[1] for point in points])


class Runner:
    """Runs a machine from any point on."""

    def __init__(self, machine):
        self._inputs, self._needs, points, self._outcomes, self._steps = machine
        self._frame = Frame(points)

    def behind(self, point, table):
        """Return for each row of a table its cells, and the point behind the table, from a point on."""
        told = []
        for row in table:
            cells, point = self._step(point, row)
            told.append(cells)
        return (tuple(told), point)

    def results(self, point):
        """Return the tuple of the results of the point."""
        return combination(self._frame.coefficients(point), self._outcomes)

    def _step(self, point, row):
        """The cells of a row behind a point, and the point behind the row."""
        coordinates = self._frame.coefficients(point)
        weights = row_weights(self._inputs, self._needs, row)
        counted = [(weight, step) for weight, step in zip(weights, self._steps) if weight != ZERO]
        kept = [weight for weight, _ in counted]
        points = [combination(coordinates, behind) for _, (behind, _) in counted]
        cells = [combination(coordinates, told) for _, (_, told) in counted]
        return (combination(kept, cells), combination(kept, points))
