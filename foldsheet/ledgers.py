"""Ledgers: trees of folds, by which every stretch of a long table is folded fast [340] to [342].

A tree is (1, fold) or (many, fold, left, right); so its number of rows and its fold stand in front.
"""

from foldsheet.folds import composed, fold


def ledger_of(sheet, table):
    """Return the ledger of the table."""
    ledger = ()
    for row in table:
        ledger = appended(sheet, ledger, row)
    return ledger


def rows_in(ledger):
    """Return the number of the rows of the ledger."""
    return sum([tree[0] for tree in ledger])


def appended(sheet, ledger, row):
    """Return the ledger with the row appended."""
    tree = _leaf(sheet, row)
    # Trees of equally many rows never stay beside each other, as digits of a binary number carry over.
    while ledger and ledger[-1][0] == tree[0]:
        tree = _joined(sheet, ledger[-1], tree)
        ledger = ledger[:-1]
    return ledger + (tree,)


def replaced(sheet, ledger, at, row):
    """Return the ledger in which the row at this place is replaced."""
    return tuple([_replaced_in(sheet, tree, at - first, row) for first, tree in _placed(ledger, 0)])


def spans(ledger, start, stop):
    """Return the places of the first row and the numbers of rows of the trees that make up the stretch."""
    return tuple([(first, tree[0]) for first, tree in _trees_of(ledger, start, stop)])


def stretch(sheet, ledger, start, stop):
    """Return the fold of the stretch."""
    found = fold(sheet, ())
    for _, tree in _trees_of(ledger, start, stop):
        found = composed(sheet, found, tree[1])
    return found


def _leaf(sheet, row):
    return (1, fold(sheet, (("row", row),)))


def _joined(sheet, left, right):
    return (left[0] + right[0], composed(sheet, left[1], right[1]), left, right)


def _replaced_in(sheet, tree, at, row):
    """The tree in which the row at this place in it is replaced, if there is one."""
    many = tree[0]
    if not 0 <= at < many:
        return tree
    if many == 1:
        return _leaf(sheet, row)
    _, _, left, right = tree
    return _joined(sheet, _replaced_in(sheet, left, at, row), _replaced_in(sheet, right, at - left[0], row))


def _placed(trees, first):
    """The pairs of the place of the first row of each tree and the tree, if neighbouring trees begin at a place."""
    found = []
    for tree in trees:
        found.append((first, tree))
        first += tree[0]
    return found


def _trees_of(ledger, start, stop):
    """The greatest trees in a stretch, each behind the place of its first row, in order."""
    found = []
    for first, tree in _placed(ledger, 0):
        found.extend(_greatest_in(tree, first, start, stop))
    return found


def _greatest_in(tree, first, start, stop):
    """The greatest trees in a stretch that are in a tree, or the tree itself."""
    behind = first + tree[0]
    if behind <= start or stop <= first:
        return []
    if start <= first and behind <= stop:
        return [(first, tree)]
    found = []
    for place, part in _placed(tree[2:], first):
        found.extend(_greatest_in(part, place, start, stop))
    return found
