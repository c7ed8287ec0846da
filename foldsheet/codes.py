"""Codes of numbers and texts: tuples of integers from 0 to 255 [301]."""

BASE = 128


def natural_code(n):
    """Return the code of a natural number, its least significant digit first."""
    digits = []
    while n >= BASE:
        n, digit = divmod(n, BASE)
        digits.append(digit + BASE)
    return tuple(digits + [n])


def integer_code(i):
    """Return the code of an integer."""
    if i < 0:
        return natural_code(-2 * i - 1)
    return natural_code(2 * i)


def fraction_code(a):
    """Return the code of a fraction."""
    return integer_code(a[0]) + natural_code(a[1])


def text_code(text):
    """Return the code of a text."""
    return tuple_code([natural_code(ord(letter)) for letter in text])


def tuple_code(codes):
    """Return the code of a tuple, if the codes of its elements are told."""
    return joined_codes([natural_code(len(codes))] + codes)


def joined_codes(codes):
    """Return some codes, one behind the other."""
    return tuple([number for code in codes for number in code])
