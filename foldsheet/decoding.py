"""Codes read back [301]: no two values have the same code, and nothing but what is written is a code."""

from foldsheet.codes import BASE
from foldsheet.errors import BadFile
from foldsheet.fractions import fraction

CHARACTERS = " !\"#$&'()*+,-./0123456789:;<=>?@ABCDEFGHIJKLMNOPQRSTUVWXYZ[\\]^_`abcdefghijklmnopqrstuvwxyz{|}~"


class CodeReader:
    """Takes codes one after another, and raises BadFile where there is none."""

    def __init__(self, numbers):
        self._numbers = numbers
        self._at = 0
        self._letters = {ord(letter): letter for letter in CHARACTERS}

    def take_number(self):
        """Return the next one of the numbers, whatever it is."""
        if self._at == len(self._numbers):
            raise BadFile("the numbers are cut off")
        self._at += 1
        return self._numbers[self._at - 1]

    def take_natural(self):
        """Return the natural number whose code follows."""
        digits = [self.take_number()]
        while digits[-1] >= BASE:
            digits.append(self.take_number())
        if len(digits) > 1 and digits[-1] == 0:
            raise BadFile("a superfluous digit")
        n = 0
        for digit in digits[::-1]:
            n = n * BASE + digit % BASE
        return n

    def take_integer(self):
        """Return the integer whose code follows."""
        half, odd = divmod(self.take_natural(), 2)
        if odd:
            return -half - 1
        return half

    def take_fraction(self):
        """Return the fraction whose code follows."""
        n = self.take_integer()
        d = self.take_natural()
        if d == 0 or fraction(n, d) != (n, d):
            raise BadFile("not a fraction in lowest terms")
        return (n, d)

    def take_text(self):
        """Return the text whose code follows."""
        many = self.take_natural()
        return "".join([self._take_letter() for _ in range(many)])

    def take_count(self, least, most):
        """Return the natural number whose code follows, which is not outside of these bounds."""
        n = self.take_natural()
        if not least <= n <= most:
            raise BadFile("a count that cannot be")
        return n

    def finish(self):
        """Check that nothing follows."""
        if self._at < len(self._numbers):
            raise BadFile("something stands behind the end")

    def _take_letter(self):
        code = self.take_natural()
        if code not in self._letters:
            raise BadFile("not a character")
        return self._letters[code]
