"""Designs of words, and reading them."""

from suregate.errors import InvalidSource
from suregate.source.scope import Scope
from suregate.source.statements import statement_of
from suregate.source.tokens import tokens_of


class Design:
    """A design: inputs, registers, lets, the next values of the registers, and outputs; it is not checked."""

    def __init__(self, inputs, registers, lets, nexts, outputs):
        self.inputs = list(inputs)
        self.registers = list(registers)
        self.lets = list(lets)
        self.nexts = list(nexts)
        self.outputs = list(outputs)

    def __eq__(self, other):
        return (isinstance(other, Design) and self.inputs == other.inputs and self.registers == other.registers
                and self.lets == other.lets and self.nexts == other.nexts and self.outputs == other.outputs)


def read_design(text):
    """Returns the design that the text describes; raises InvalidSource for the first line with a fault."""
    scope = Scope()
    for line, content in enumerate(text.split("\n"), start=1):
        tokens = tokens_of(content)
        if tokens is None:
            raise InvalidSource(line, "word")
        # A line without tokens says nothing.
        if tokens:
            scope.add_statement(line, statement_of(line, tokens))
    nexts = scope.next_values()
    return Design(scope.inputs, scope.registers, scope.lets, nexts, scope.outputs)
