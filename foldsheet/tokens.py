"""Texts of formulas divided into tokens [43]."""

from foldsheet.errors import FormulaError
from foldsheet.formulas import RESERVED_WORDS
from foldsheet.fractions import fraction

DIGITS = "0123456789"
LETTERS = "ABCDEFGHIJKLMNOPQRSTUVWXYZabcdefghijklmnopqrstuvwxyz"
ABOVE = "[-1]"
LONG_SYMBOLS = ("<=", "<>", ">=")
SHORT_SYMBOLS = ("(", ")", ",", "+", "-", "*", "/", "<", "=", ">")
MOST_DIGITS = 9
MOST_CHARACTERS = 20


def split_text(text):
    """Return the tuple of the tokens of a text: triples of place, kind and value."""
    tokens = []
    place = 0
    while place < len(text):
        if text[place] == " ":
            place += 1
        else:
            kind, value, end = _token_at(text, place)
            tokens.append((place, kind, value))
            place = end
    return tuple(tokens)


def _token_at(text, place):
    """The kind and the value of the token that begins at the place, and the place behind it."""
    first = text[place]
    if first in DIGITS:
        return _number_at(text, place)
    if first in LETTERS:
        return _name_at(text, place)
    if first == '"':
        return _choice_at(text, place)
    if first == "[":
        return _above_at(text, place)
    return _symbol_at(text, place)


def _end_of_run(text, place, allowed):
    """The place behind the characters from this place on that are allowed."""
    while place < len(text) and text[place] in allowed:
        place += 1
    return place


def _number_at(text, place):
    end = _end_of_run(text, place, DIGITS)
    whole = text[place:end]
    decimals = ""
    if text.startswith(".", end):
        decimals = text[end + 1:_end_of_run(text, end + 1, DIGITS)]
    if decimals:
        end += 1 + len(decimals)
    if len(whole + decimals) > MOST_DIGITS:
        raise FormulaError(place, "digits")
    value = fraction(int(whole + decimals), int("1" + "0" * len(decimals)))
    return "number", value, end


def _name_at(text, place):
    end = _end_of_run(text, place, LETTERS + DIGITS)
    name = text[place:end]
    if len(name) > MOST_CHARACTERS:
        raise FormulaError(place, "name")
    if name in RESERVED_WORDS:
        return "word", name, end
    return "name", name, end


def _choice_at(text, place):
    close = text.find('"', place + 1)
    choice = text[place + 1:close]
    if close < 0 or not 1 <= len(choice) <= MOST_CHARACTERS:
        raise FormulaError(place, "choice")
    return "choice", choice, close + 1


def _above_at(text, place):
    if not text.startswith(ABOVE, place):
        raise FormulaError(place, "above")
    return "above", ABOVE, place + len(ABOVE)


def _symbol_at(text, place):
    for symbol in LONG_SYMBOLS + SHORT_SYMBOLS:
        if text.startswith(symbol, place):
            return "symbol", symbol, place + len(symbol)
    raise FormulaError(place, "character")
