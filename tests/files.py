"""Files written as [300] to [303] say, also such as no program writes: every part may be told as it is to be written.

It shares no code with the program but the printed forms of formulas, and takes the text of a formula as well.
"""

from foldsheet.printer import show_formula

MARK = (70, 83, 84, 49)


def natural(n):
    low, high = n % 128, n // 128
    return (low + 128,) + natural(high) if high else (low,)


def integer(i):
    return natural(2 * i if i >= 0 else -2 * i - 1)


def fraction(pair):
    return integer(pair[0]) + natural(pair[1])


def many(codes):
    codes = list(codes)
    return natural(len(codes)) + sum(codes, ())


def text(letters):
    """The code of a text, or of numbers in the place of characters."""
    return many(natural(each if isinstance(each, int) else ord(each)) for each in letters)


def formula(told):
    """The code of a formula, or of its text, or of numbers in the place of the characters of this text."""
    return text(show_formula(told) if isinstance(told, tuple) else told)


def one_input(column):
    if column[0] == "number":
        return text(column[1]) + natural(0) + integer(column[2]) + integer(column[3])
    return text(column[1]) + many(text(each) for each in column[2])


def one_state(column):
    """A state column; `first` may be told as a place."""
    name, choices, first, told = column
    place = first if isinstance(first, int) else choices.index(first)
    return text(name) + many(text(each) for each in choices) + natural(place) + formula(told)


def one_column(column):
    return text(column[0]) + fraction(column[1]) + formula(column[2])


def one_result(result):
    return text(result[0]) + formula(result[1])


def definition(told):
    kinds = (one_input, one_state, one_column, one_result)
    return sum([many(write(each) for each in part) for write, part in zip(kinds, told)], ())


def entry(column, told):
    """An entry; that of a choice input may be told as a place."""
    return integer(column[2].index(told) if isinstance(told, str) else told)


def item(inputs, told):
    kind, worth = told
    if kind == "fold":
        return natural(1) + many(many(fraction(each) for each in point) for point in worth)
    # A row with too many entries has them written as whole numbers.
    columns = tuple(inputs) + (("number",),) * (len(worth) - len(inputs))
    return natural(0) + many(entry(column, each) for column, each in zip(columns, worth))


def file(told, items):
    return MARK + definition(told) + many(item(told[0], each) for each in items)


def naturals(numbers):
    """The places of the first and behind the last digit of each natural number behind the mark."""
    found, start = [], len(MARK)
    for at in range(start, len(numbers)):
        if numbers[at] < 128:
            found.append((start, at + 1))
            start = at + 1
    return found
