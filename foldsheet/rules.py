"""The problems of a definition [61]."""

from foldsheet.columns import COLUMNS, INPUTS, RESULTS, STATES
from foldsheet.needs import needs
from foldsheet.reasons import dependent_columns, formula_reason
from foldsheet.sizes import size_of
from foldsheet.testrows import MOST_ROWS, count_rows

WORDS = ("inputs", "states", "columns", "results")
MOST_SIZE = 150


def problems(definition):
    """Return the tuple of the problems of a definition, pairs of a path and a reason, in order."""
    found = _name_problems(definition) + _formula_problems(definition)
    if found:
        return tuple(found)
    # Sizes and test rows can be told of formulas without problems only.
    return _bound_problems(definition)


def first_problem(definition):
    """Return the first problem of a definition, or None."""
    found = problems(definition)
    if found:
        return found[0]
    return None


def _name_problems(definition):
    inputs = [((WORDS[INPUTS], at), each[1]) for at, each in enumerate(definition[INPUTS])]
    others = [((WORDS[group], at), each[0])
              for group in (STATES, COLUMNS, RESULTS) for at, each in enumerate(definition[group])]
    found = []
    before = set()
    for path, name in inputs + others:
        if name in before:
            found.append((path, "duplicate"))
        before.add(name)
    return found


def _formula_problems(definition):
    dependent = dependent_columns(definition)
    found = []
    for group in (STATES, COLUMNS, RESULTS):
        for at, each in enumerate(definition[group]):
            reason = formula_reason(definition, dependent, (group, at), each[-1])
            if reason is not None:
                found.append(((WORDS[group], at), reason))
    return found


def _bound_problems(definition):
    if size_of(definition) > MOST_SIZE:
        return (((), "size"),)
    if count_rows(definition[INPUTS], needs(definition)) > MOST_ROWS:
        return (((), "rows"),)
    return ()
