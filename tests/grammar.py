"""The grammar of [44] as a table, and what [45] and [47] say of tokens by it, for all its derivations at a time.

A stack is None or a pair of what is expected next and the stack behind it. What is expected is a string, which
stands for tokens, or a pair of a line of the grammar and the number of levels that are open.
"""

MANY_LEVELS = 1000
TOKENS = {
    "number": ("0", "whole", "decimal"), "nonzero": ("whole", "decimal"), "integer": ("0", "whole"),
    "relation": ("<", "<=", "=", "<>", ">=", ">"), "equality": ("=", "<>"),
}
FEWEST = {
    "formula": 1, "product": 1, "operand": 1, "reference": 1, "condition": 3, "conjunction": 3, "negation": 3,
    "comparison": 3, "more products": 0, "more operands": 0, "more conjunctions": 0, "more negations": 0,
}


def productions(line, levels, most):
    def at(name, more=0):
        return (name, levels + more)

    opening = levels < most
    table = {
        "formula": [(at("product"), at("more products"))],
        "more products": [()] + [(sign, at("product"), at("more products")) for sign in "+-"],
        "product": [(at("operand"), at("more operands"))],
        "more operands": [(), ("*", at("operand"), at("more operands")), ("/", "nonzero", at("more operands"))],
        "operand": [("number",), ("choice",), (at("reference"),)] + opening * [
            ("-", at("operand", 1)), ("(", at("formula", 1), ")"),
            ("floor", "(", at("formula", 1), ")"), ("sum", "(", at("formula", 1), ")"),
            ("if", "(", at("condition", 1), ",", at("formula", 1), ",", at("formula", 1), ")"),
        ],
        "reference": [("name",), ("name", "[-1]"), ("last", "(", "name", ")")],
        "condition": [(at("conjunction"), at("more conjunctions"))],
        "more conjunctions": [(), ("or", at("conjunction"), at("more conjunctions"))],
        "conjunction": [(at("negation"), at("more negations"))],
        "more negations": [(), ("and", at("negation"), at("more negations"))],
        "negation": [(at("comparison"),)] + opening * [
            ("not", at("negation", 1)), ("(", at("condition", 1), ")"),
        ],
        "comparison": [
            (at("reference"), "relation", "integer"), (at("reference"), "relation", "-", "integer"),
            (at("reference"), "equality", "choice"),
        ],
    }
    return table[line]


def pushed(symbols, stack):
    for symbol in reversed(symbols):
        stack = (symbol, stack)
    return stack


def opened(stack, most):
    """All stacks that expect a token first, or nothing, into which a stack can be resolved."""
    if stack is None or isinstance(stack[0], str):
        return [stack]
    (line, levels), rest = stack
    return [each for symbols in productions(line, levels, most) for each in opened(pushed(symbols, rest), most)]


def sort_of(token):
    """What the grammar takes a token for."""
    _, kind, value = token
    if kind == "number":
        return "0" if value[0] == 0 else "whole" if value[1] == 1 else "decimal"
    return kind if kind in ("name", "choice") else value


def taken(stacks, sort, most):
    """The stacks behind a token, and whether a number other than 0 was expected."""
    found, nonzero = [], False
    for stack in [each for stack in stacks for each in opened(stack, most)]:
        if stack is not None:
            nonzero = nonzero or stack[0] == "nonzero"
            if sort in TOKENS.get(stack[0], (stack[0],)) and stack[1] not in found:
                found.append(stack[1])
    return found, nonzero


def fewest(stack):
    total = 0
    while stack is not None:
        symbol, stack = stack
        total += 1 if isinstance(symbol, str) else FEWEST[symbol[0]]
    return total


def judged(tokens, length, most=20):
    """The triple of place, reason and None; or of None, None and the fewest tokens that are missing."""
    stacks = deep = [(("formula", 0), None)]
    for token in tokens:
        sort = sort_of(token)
        stacks, nonzero = taken(stacks, sort, most)
        deep, _ = taken(deep, sort, MANY_LEVELS)
        if not stacks:
            reason = "zero" if nonzero and sort == "0" else "depth" if deep else "token"
            return token[0], reason, None
    return (None, None, 0) if any(fewest(stack) == 0 for stack in stacks) else (
        length, "end", min(fewest(stack) for stack in stacks))
