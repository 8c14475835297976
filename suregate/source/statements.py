"""The statements of a design, read from the tokens of their lines."""

from suregate.errors import InvalidSource
from suregate.source.tokens import is_name_token
from suregate.text.lines import is_number

MOST_OPEN = 24
# How strongly the signs with two sides bind, the weakest first.
BINDINGS = {"|": 1, "^": 2, "&": 3, "==": 4, "!=": 4, "<": 4, "<=": 4, "+": 5, "-": 5, "*": 6}
WEAKEST = 1
FRONT_WORDS = {"~": "not", "-": "minus"}


def statement_of(line, tokens):
    """Returns the statement of a line: its word, its name, and what follows, which are numbers or an expression."""
    reader = StatementReader(line, tokens)
    word = reader.take_name()
    if word not in ("input", "register", "let", "next", "output"):
        raise InvalidSource(line, "word")
    name = reader.take_name()
    if word == "input":
        statement = (word, name, reader.take_number())
    elif word == "register":
        statement = (word, name, reader.take_number(), reader.take_number())
    else:
        reader.take_sign("=")
        statement = (word, name, reader.take_expression())
    reader.finish()
    return statement


class StatementReader:
    """Reads the tokens of a line from left to right; its methods of taking change it."""

    def __init__(self, line, tokens):
        self._line = line
        self._tokens = list(tokens)
        self._taken = 0
        # How many parentheses, braces, choices and signs in front are open.
        self._open_count = 0

    def take_name(self):
        """Takes a name and returns it."""
        if not is_name_token(self._token()):
            raise InvalidSource(self._line, "word")
        return self._take()

    def take_number(self):
        """Takes a number and returns it."""
        if not is_number(self._token()):
            raise InvalidSource(self._line, "word")
        return int(self._take())

    def take_sign(self, sign):
        """Takes the sign."""
        if self._token() != sign:
            raise InvalidSource(self._line, "word")
        self._take()

    def finish(self):
        """Raises InvalidSource if a token is left."""
        if self._taken < len(self._tokens):
            raise InvalidSource(self._line, "word")

    def take_expression(self):
        """Takes an expression and returns it."""
        test = self._take_sides(WEAKEST)
        if self._token() != "?":
            return test
        self._take_opening()
        yes = self.take_expression()
        self.take_sign(":")
        no = self.take_expression()
        self._open_count -= 1
        return "?", test, yes, no

    def _token(self):
        """Returns the next token, or the empty text at the end of the line."""
        return self._tokens[self._taken] if self._taken < len(self._tokens) else ""

    def _take(self):
        """Takes the next token, which is there, and returns it."""
        self._taken += 1
        return self._tokens[self._taken - 1]

    def _take_opening(self):
        """Takes a token that opens something, and returns it."""
        self._open_count += 1
        if self._open_count > MOST_OPEN:
            raise InvalidSource(self._line, "limit")
        return self._take()

    def _take_sides(self, least):
        """Takes what is bound together at least this strongly."""
        left = self._take_front()
        while BINDINGS.get(self._token(), 0) >= least:
            sign = self._take()
            left = (sign, left, self._take_sides(BINDINGS[sign] + 1))
        return left

    def _take_front(self):
        """Takes an expression with any number of signs in front."""
        if self._token() not in FRONT_WORDS:
            return self._take_behind()
        word = FRONT_WORDS[self._take_opening()]
        part = self._take_front()
        self._open_count -= 1
        return word, part

    def _take_behind(self):
        """Takes an expression with any number of picks behind."""
        part = self._take_inner()
        while self._token() == "[":
            self._take()
            high = self.take_number()
            low = high
            if self._token() == ":":
                self._take()
                low = self.take_number()
            self.take_sign("]")
            part = ("pick", part, high, low)
        return part

    def _take_inner(self):
        """Takes a name, a constant, or what stands in parentheses or braces."""
        if self._token() == "(":
            self._take_opening()
            part = self.take_expression()
            self.take_sign(")")
            self._open_count -= 1
            return part
        if self._token() == "{":
            return "join", self._take_braces()
        if is_number(self._token()):
            width = self.take_number()
            self.take_sign("'")
            return "number", width, self.take_number()
        return "name", self.take_name()

    def _take_braces(self):
        """Takes braces, and returns the tuple of their parts."""
        self._take_opening()
        parts = [self.take_expression()]
        while self._token() == ",":
            self._take()
            parts.append(self.take_expression())
        self.take_sign("}")
        self._open_count -= 1
        return tuple(parts)
