"""What the lines of a design have said so far, with all that they must keep to."""

from suregate.errors import InvalidSource

GREATEST_HEIGHT = 12
GREATEST_WIDTH = 16
MOST_INPUT_BITS = 16
MOST_REGISTER_BITS = 40
MOST_OUTPUT_BITS = 32
MOST_LETS = 100
COMPARISONS = ("==", "!=", "<", "<=")


class Scope:
    """The parts of a design, in the order of their lines; its method of adding changes it."""

    def __init__(self):
        self.inputs = []
        self.registers = []
        self.lets = []
        self.outputs = []
        self._next_values = {}
        self._register_lines = {}
        # The widths of the words that an expression can name.
        self._widths = {}

    def add_statement(self, line, statement):
        """Adds the statement of a line; raises InvalidSource for the first fault."""
        word, name, *more = statement
        if word in ("input", "register"):
            self._add_word(line, word, name, more)
        else:
            (expression,) = more
            if height_of(expression) > GREATEST_HEIGHT:
                raise InvalidSource(line, "limit")
            self._check_name(line, word, name)
            width = width_of(line, expression, self._widths)
            self._add_expression(line, word, (name, width, expression))
        self._check_limits(line)

    def next_values(self):
        """Returns the next values of the registers, in order; raises InvalidSource if one is missing."""
        for name, _, _ in self.registers:
            if name not in self._next_values:
                raise InvalidSource(self._register_lines[name], "missing")
        return [self._next_values[name] for name, _, _ in self.registers]

    def _add_word(self, line, word, name, numbers):
        """Adds an input with its width, or a register with its width and start value."""
        self._check_name(line, word, name)
        width = numbers[0]
        if not _is_width(width) or (word == "register" and numbers[1] >= 1 << width):
            raise InvalidSource(line, "number")
        self._widths[name] = width
        if word == "input":
            self.inputs.append((name, width))
        else:
            self.registers.append((name, width, numbers[1]))
            self._register_lines[name] = line

    def _check_name(self, line, word, name):
        """Raises InvalidSource if a statement cannot be about this name."""
        if word == "output":
            is_taken = name in [told for told, _, _ in self.outputs]
        elif word == "next":
            if name not in self._register_lines:
                raise InvalidSource(line, "name")
            is_taken = name in self._next_values
        else:
            is_taken = name in self._widths
        if is_taken:
            raise InvalidSource(line, "twice")

    def _add_expression(self, line, word, entry):
        """Adds a let, a next value or an output with its width."""
        name, width, expression = entry
        if word == "let":
            self.lets.append(entry)
            self._widths[name] = width
        elif word == "output":
            self.outputs.append(entry)
        else:
            if width != self._widths[name]:
                raise InvalidSource(line, "width")
            self._next_values[name] = expression

    def _check_limits(self, line):
        """Raises InvalidSource if there are too many bits or lets."""
        if (sum([width for _, width in self.inputs]) > MOST_INPUT_BITS
                or sum([width for _, width, _ in self.registers]) > MOST_REGISTER_BITS
                or sum([width for _, width, _ in self.outputs]) > MOST_OUTPUT_BITS
                or len(self.lets) > MOST_LETS):
            raise InvalidSource(line, "limit")


def height_of(expression):
    """Returns the height of an expression."""
    return max([1 + height_of(part) for part in parts_of(expression)], default=0)


def parts_of(expression):
    """Returns the expressions of which an expression consists."""
    word = expression[0]
    if word in ("name", "number"):
        return ()
    if word == "pick":
        return expression[1:2]
    if word == "join":
        return expression[1]
    return expression[1:]


def width_of(line, expression, widths):
    """Returns the width of an expression; raises InvalidSource for its first fault."""
    word = expression[0]
    if word == "name":
        if expression[1] not in widths:
            raise InvalidSource(line, "name")
        return widths[expression[1]]
    if word == "number":
        _, width, value = expression
        if not _is_width(width) or value >= 1 << width:
            raise InvalidSource(line, "number")
        return width
    part_widths = [width_of(line, part, widths) for part in parts_of(expression)]
    if word == "pick":
        _, _, high, low = expression
        if low > high or high >= part_widths[0]:
            raise InvalidSource(line, "number")
        return high - low + 1
    if word == "join":
        if sum(part_widths) > GREATEST_WIDTH:
            raise InvalidSource(line, "width")
        return sum(part_widths)
    return _width_of_sides(line, word, part_widths)


def _width_of_sides(line, word, part_widths):
    """Returns the width of an expression all of whose parts must have the same width, but for the test of a choice."""
    sides = part_widths
    if word == "?":
        test, *sides = part_widths
        if test != 1:
            raise InvalidSource(line, "width")
    if sides[0] != sides[-1]:
        raise InvalidSource(line, "width")
    return 1 if word in COMPARISONS else sides[0]


def _is_width(width):
    """Tells whether a word can be as wide as this."""
    return 1 <= width <= GREATEST_WIDTH
