"""Linear equations between the results of a sheet that hold in all tables [240], [241]."""

from foldsheet.columns import RESULTS
from foldsheet.fractions import ZERO, added
from foldsheet.frames import weighted_sum
from foldsheet.points import fitted


def equations(sheet):
    """Return the tuple of the equations: the name of a result, the constant, and free results with coefficients."""
    outcomes = sheet.outcomes()
    names = [name for name, _ in sheet.definition[RESULTS]]
    free = []
    told = []
    for at, name in enumerate(names):
        points = tuple([tuple([outcome[place] for place in free]) for outcome in outcomes])
        found = fitted(points, tuple([outcome[at] for outcome in outcomes]))
        if found is None:
            free.append(at)
        else:
            constant, coefficients = found
            terms = [(names[place], each) for place, each in zip(free, coefficients) if each != ZERO]
            told.append((name, constant, tuple(terms)))
    return tuple(told)


def violation(sheet, constant, coefficients):
    """Return the rows of the first beginning in which the equation does not hold and its value there, or None."""
    for rows, outcome in zip(sheet.beginnings, sheet.outcomes()):
        value = added(constant, weighted_sum(coefficients, outcome))
        if value != ZERO:
            return (rows, value)
    return None
