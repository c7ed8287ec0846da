"""Agreements, by which anyone can check that two sheets agree in all tables [203]."""

from foldsheet.comparing import Comparison
from foldsheet.fractions import ZERO
from foldsheet.frames import StateFrame, combination
from foldsheet.points import with_one


def agreement(first, second, *, only=None):
    """Return the listed tables and their weights if two sheets agree in all tables, otherwise None."""
    comparison = Comparison(first, second, only)
    listing = comparison.search()
    if comparison.differences(listing.tables, listing.states):
        return None
    frame = StateFrame(listing.states)
    weights = [tuple([frame.weights(pair) for pair in _pairs_behind(comparison, each)]) for each in listing.states]
    return (tuple(listing.tables), tuple(weights))


def check_agreement(first, second, tables, weights, *, only=None):
    """Return whether tables and weights are a right agreement of two sheets."""
    comparison = Comparison(first, second, only)
    if tables[:1] != ((),):
        return False
    start = comparison.calculator.start()
    pairs = [comparison.calculator.behind(start, table) for table in tables]
    if comparison.differences(tables, pairs):
        return False
    # For each table and each common test row behind it the coefficients and the pair that they are to combine to.
    told = [(coefficients, behind) for pair, of_rows in zip(pairs, weights)
            for coefficients, behind in zip(of_rows, _pairs_behind(comparison, pair))]
    return all([_combines(coefficients, pairs, behind) for coefficients, behind in told])


def _pairs_behind(comparison, pair):
    """The pairs of states behind a pair of states and each common test row."""
    return [comparison.calculator.step(pair, row)[0] for row in comparison.rows]


def _combines(coefficients, pairs, wanted):
    """Whether a pair is the affine combination with these coefficients of pairs that have its choices where they count.

    The numbers get a 1 behind them, so that coefficients that do not add up to 1 show as well.
    """
    counted = [(coefficient, pair) for coefficient, pair in zip(coefficients, pairs) if coefficient != ZERO]
    if any([pair[0] != wanted[0] for _, pair in counted]):
        return False
    numbers = [with_one(pair[1]) for _, pair in counted]
    return combination([coefficient for coefficient, _ in counted], numbers) == with_one(wanted[1])
