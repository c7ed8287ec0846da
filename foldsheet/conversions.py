"""Folds of one sheet made into folds of another one without the rows [260], [261], [262]."""

from foldsheet.elimination import Basis
from foldsheet.folds import composed
from foldsheet.fractions import ONE, ZERO
from foldsheet.frames import combination
from foldsheet.listing import search
from foldsheet.pairs import check_inputs
from foldsheet.points import affine, separating
from foldsheet.testrows import common_test_rows


def conversion(old, new):
    """Return for each listed block of rows the triple of the block, its fold by the old and by the new sheet."""
    check_inputs(old, new)
    rows = common_test_rows(old.definition, new.definition)
    folder = PairFolder(old, new, rows)
    listing = search(folder.start(), rows, folder.step)
    return tuple([(block,) + folder.folds(state) for block, state in zip(listing.tables, listing.states)])


def undetermined(conversion):
    """Return None if the conversion is determined, otherwise the terms that show that it is not."""
    blocks = [block for block, _, _ in conversion]
    old_numbers = [_numbers(fold) for _, fold, _ in conversion]
    new_numbers = [_numbers(fold) for _, _, fold in conversion]
    columns = ((ONE,) * len(blocks),) + tuple(zip(*old_numbers))
    basis = Basis()
    for column in columns:
        basis.takes(column)
    for values in zip(*new_numbers):
        if basis.takes(values):
            numbers = separating(values, columns)
            return tuple([(block, number) for block, number in zip(blocks, numbers) if number != ZERO])
    return None


def converted(conversion, fold):
    """Return the fold of the new sheet that a fold of the old sheet becomes, or None if it is not converted."""
    weights = affine(_numbers(fold), tuple([_numbers(old) for _, old, _ in conversion]))
    if weights is None:
        return None
    numbers = combination(weights, [_numbers(new) for _, _, new in conversion])
    return _fold_like(conversion[0][2], numbers)


class PairFolder:
    """Folds blocks of rows by two sheets at once.

    The numbers of both folds are kept as those of a state without choices, as the search for tables takes them.
    """

    def __init__(self, old, new, rows):
        self._old = old
        self._new = new
        self._steps = {row: (old.steps(row)[0], new.steps(row)[0]) for row in rows}
        self._many_old = len(_numbers(old.points))

    def start(self):
        """Return the state of the block without rows."""
        return ((), _numbers(self._old.points) + _numbers(self._new.points))

    def step(self, state, row):
        """Return the state of the block with the row behind it."""
        one, other = self.folds(state)
        behind, other_behind = self._steps[row]
        return ((), _numbers(composed(self._old, one, behind)) + _numbers(composed(self._new, other, other_behind)))

    def folds(self, state):
        """Return the pair of the folds by the old and by the new sheet."""
        numbers = state[1]
        return (_fold_like(self._old.points, numbers[:self._many_old]),
                _fold_like(self._new.points, numbers[self._many_old:]))


def _numbers(fold):
    """All numbers of a fold in one row."""
    return tuple([number for point in fold for number in point])


def _fold_like(fold, numbers):
    """The fold that has these numbers, and as many points of as many numbers as the given one."""
    size = len(fold[0])
    return tuple([numbers[at * size:(at + 1) * size] for at in range(len(fold))])
