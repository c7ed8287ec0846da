"""Fractions: pairs of a numerator and a denominator in lowest terms [20], and their texts [21]."""

from math import gcd

from foldsheet.errors import FractionError

ZERO = (0, 1)
ONE = (1, 1)


def fraction(n, d):
    """Return the fraction of n divided by d."""
    common = gcd(n, d)
    if d < 0:
        common = -common
    return (n // common, d // common)


def added(a, b):
    """Return the sum of two fractions."""
    return fraction(a[0] * b[1] + b[0] * a[1], a[1] * b[1])


def subtracted(a, b):
    """Return the first fraction minus the second."""
    return added(a, negated(b))


def multiplied(a, b):
    """Return the product of two fractions."""
    return fraction(a[0] * b[0], a[1] * b[1])


def divided(a, b):
    """Return the first fraction divided by the second, which is not 0."""
    return fraction(a[0] * b[1], a[1] * b[0])


def negated(a):
    """Return minus the fraction."""
    return (-a[0], a[1])


def floor_of(a):
    """Return the greatest integer that is not greater than the fraction."""
    return a[0] // a[1]


def compared(a, b):
    """Return -1, 0 or 1 if the first fraction is less than, equal to or greater than the second."""
    difference = subtracted(a, b)[0]
    if difference < 0:
        return -1
    if difference > 0:
        return 1
    return 0


def digits_of(a):
    """Return the number of digits of the numerator or of the denominator, whichever is greater."""
    return max(len(str(abs(a[0]))), len(str(a[1])))


def show_fraction(a):
    """Return the text of the fraction."""
    if a[1] == 1:
        return str(a[0])
    return f"{a[0]}/{a[1]}"


def read_fraction(text):
    """Return the fraction with this text, or raise FractionError."""
    above, stroke, below = text.partition("/")
    if not _is_digits(above.removeprefix("-")):
        raise FractionError("no numerator")
    if not stroke:
        below = "1"
    if not _is_digits(below) or int(below) == 0:
        raise FractionError("no denominator")
    result = fraction(int(above), int(below))
    # Each fraction has one text only, so this refuses zeros in front and what is not in lowest terms.
    if show_fraction(result) != text:
        raise FractionError("not the text of its fraction")
    return result


def _is_digits(text):
    return text.isascii() and text.isdigit()
