"""Formulas and conditions as tuples [40], [41]: their operands, parts and depth [42]."""

RESERVED_WORDS = ("if", "and", "or", "not", "sum", "last", "floor")
REFERENCES = ("here", "above", "last")
RELATIONS = ("<", "<=", "=", "<>", ">=", ">")


def operands_of(part):
    """Return the tuple of the formulas and conditions that a formula or a condition is directly made of."""
    kind = part[0]
    if kind in ("number", "choice") or kind in REFERENCES or kind in RELATIONS:
        return ()
    if kind == "/":
        return (part[1],)
    return part[1:]


def parts_of(formula):
    """Return the list of all formulas and conditions in a formula, itself first, as they stand from left to right."""
    found = []
    pending = [formula]
    while pending:
        part = pending.pop()
        found.append(part)
        pending.extend(operands_of(part)[::-1])
    return found


def references_in(formula):
    """Return the list of all references in a formula, those in its conditions included, from left to right."""
    parts = parts_of(formula)
    return [part[1] if part[0] in RELATIONS else part for part in parts if part[0] in REFERENCES + RELATIONS]


def count_parts(formula):
    """Return the number of parts of a formula."""
    return sum([_own_parts(part) for part in parts_of(formula)])


def depth_of(formula):
    """Return the depth of a formula."""
    depth = 0
    layer = [formula]
    while layer:
        depth += 1
        layer = [operand for part in layer for operand in operands_of(part)]
    return depth


def _own_parts(part):
    if part[0] in RELATIONS:
        return 3
    if part[0] == "/":
        return 2
    return 1
