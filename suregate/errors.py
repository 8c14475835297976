"""The errors of the package."""


class SuregateError(ValueError):
    """The base class of all errors of the package."""


class InvalidCircuit(SuregateError):
    """An entry of a circuit is invalid."""

    def __init__(self, part, index):
        super().__init__(f"invalid entry {index} of the {part} of a circuit")
        self.part = part
        self.index = index


class InvalidNetlist(SuregateError):
    """An entry of a netlist is invalid."""

    def __init__(self, part, index):
        super().__init__(f"invalid entry {index} of the {part} of a netlist")
        self.part = part
        self.index = index


class InvalidText(SuregateError):
    """A line of a text is invalid."""

    def __init__(self, line):
        super().__init__(f"invalid line {line} of a text")
        self.line = line


class InvalidSource(SuregateError):
    """A line of a design is invalid."""

    def __init__(self, line, reason):
        super().__init__(f"invalid line {line} of a design: {reason}")
        self.line = line
        self.reason = reason


class InvalidCourse(SuregateError):
    """A row of a course is invalid, or is one too many."""

    def __init__(self, index):
        super().__init__(f"invalid row {index} of a course")
        self.index = index


class InvalidStep(SuregateError):
    """A word of a script is no step, or is one too many."""

    def __init__(self, index):
        super().__init__(f"invalid step {index} of a script")
        self.index = index


class InvalidLabels(SuregateError):
    """Labels of a circuit are not legal."""

    def __init__(self, index):
        super().__init__(f"illegal label {index} of a circuit")
        self.index = index


class InvalidDelays(SuregateError):
    """Delays of a netlist are invalid."""

    def __init__(self, index):
        super().__init__(f"invalid delay {index} of a netlist")
        self.index = index


class InvalidCut(SuregateError):
    """A list of nodes does not cut off a node."""

    def __init__(self, node):
        super().__init__(f"invalid cut at node {node}")
        self.node = node


class UnlikeInterfaces(SuregateError):
    """Two circuits do not have the same interface."""


class TooHard(SuregateError):
    """An answer would need more work than is allowed."""


class TooManyStates(SuregateError):
    """More joint states have been met than are allowed."""


class InvalidPeriod(SuregateError):
    """A period is out of range."""


class InvalidCount(SuregateError):
    """A size is out of range."""
