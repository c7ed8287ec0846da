"""The grammar of formulas [44], followed token by token."""

from foldsheet.errors import FormulaError
from foldsheet.formulas import RELATIONS
from foldsheet.tokens import ABOVE, split_text

MOST_TOKENS = 100
MOST_LEVELS = 20


class Parser:
    """Reads the tokens of a text, and fills in what is missing behind the last one if it is told to.

    Each token that it takes begins a formula together with those before it, so that the first one that it
    refuses is the one that the document calls wrong [45].
    """

    def __init__(self, text, *, filling):
        self._tokens = split_text(text)
        if len(self._tokens) > MOST_TOKENS:
            raise FormulaError(None, "many")
        self._length = len(text)
        self._filling = filling
        self._at = 0
        self._levels = 0
        self.filled = []

    def whole(self):
        """Return the formula that all tokens are."""
        formula = self._formula()
        if self._ahead() is not None:
            self._refuse("token")
        return formula

    def _formula(self):
        left = self._product()
        while self._ahead() in ("+", "-"):
            operation = self._take()
            left = (operation, left, self._product())
        return left

    def _product(self):
        left = self._operand()
        while self._ahead() in ("*", "/"):
            if self._take() == "*":
                left = ("*", left, self._operand())
            else:
                left = ("/", left, self._divisor())
        return left

    def _operand(self):
        ahead = self._needed("0")
        if ahead == "-":
            return self._negative()
        if ahead == "(":
            self._enter()
            operand = self._formula()
            self._close()
            return operand
        if ahead in ("floor", "sum"):
            return self._applied()
        if ahead == "if":
            return self._branch()
        if ahead in ("number", "choice"):
            return (ahead, self._take())
        return self._reference()

    def _negative(self):
        self._enter()
        operand = self._operand()
        self._leave()
        return ("neg", operand)

    def _applied(self):
        word = self._enter()
        self._expect("(")
        operand = self._formula()
        self._close()
        return (word, operand)

    def _branch(self):
        self._enter()
        self._expect("(")
        condition = self._condition()
        self._expect(",")
        then = self._formula()
        self._expect(",")
        otherwise = self._formula()
        self._close()
        return ("if", condition, then, otherwise)

    def _reference(self):
        if self._ahead() == "last":
            self._take()
            self._expect("(")
            name = self._name()
            self._expect(")")
            return ("last", name)
        name = self._name()
        if self._ahead() == ABOVE:
            self._take()
            return ("above", name)
        return ("here", name)

    def _condition(self):
        left = self._conjunction()
        while self._ahead() == "or":
            self._take()
            left = ("or", left, self._conjunction())
        return left

    def _conjunction(self):
        left = self._negation()
        while self._ahead() == "and":
            self._take()
            left = ("and", left, self._negation())
        return left

    def _negation(self):
        ahead = self._needed("a")
        if ahead == "(":
            self._enter()
            operand = self._condition()
            self._close()
            return operand
        if ahead == "not":
            self._enter()
            operand = self._negation()
            self._leave()
            return ("not", operand)
        return self._comparison()

    def _comparison(self):
        reference = self._reference()
        if self._needed("=") not in RELATIONS:
            self._refuse("token")
        relation = self._take()
        ahead = self._needed("0")
        if ahead == "choice" and relation in ("=", "<>"):
            return (relation, reference, self._take())
        if ahead == "-":
            self._take()
            return (relation, reference, -self._integer())
        return (relation, reference, self._integer())

    def _integer(self):
        if self._needed("0") != "number" or self._value()[1] != 1:
            self._refuse("token")
        return self._take()[0]

    def _divisor(self):
        if self._needed("1") != "number":
            self._refuse("token")
        if self._value()[0] == 0:
            self._refuse("zero")
        return self._take()

    def _name(self):
        if self._needed("a") != "name":
            self._refuse("token")
        return self._take()

    def _enter(self):
        """Take a token that opens a level, alone or with the parenthesis that must follow it."""
        if self._levels == MOST_LEVELS:
            self._refuse("depth")
        self._levels += 1
        return self._take()

    def _leave(self):
        self._levels -= 1

    def _close(self):
        self._expect(")")
        self._leave()

    def _expect(self, symbol):
        if self._needed(symbol) != symbol:
            self._refuse("token")
        self._take()

    def _needed(self, text):
        """What stands ahead; at the end of the tokens, this text is filled in or found missing."""
        if self._ahead() is None:
            if not self._filling:
                raise FormulaError(self._length, "end")
            self.filled.append(text)
            self._tokens = self._tokens + split_text(text)
        return self._ahead()

    def _ahead(self):
        """The next token as the grammar has it: its value, or its kind if this is number, name or choice."""
        if self._at == len(self._tokens):
            return None
        _, kind, value = self._tokens[self._at]
        if kind in ("number", "name", "choice"):
            return kind
        return value

    def _value(self):
        return self._tokens[self._at][2]

    def _take(self):
        value = self._value()
        self._at += 1
        return value

    def _refuse(self, reason):
        raise FormulaError(self._tokens[self._at][0], reason)
