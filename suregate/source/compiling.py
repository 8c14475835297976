"""Designs as circuits."""

from suregate.errors import InvalidCircuit
from suregate.graph.builder import Builder
from suregate.graph.circuit import GREATEST_COUNTS, Circuit
from suregate.source.gates import choose_word, complement_of, negative_of, word_of_sides


def compile_design(design):
    """Returns the circuit of a design."""
    inputs = _names_of_bits(design.inputs)
    register_names = _names_of_bits(design.registers)
    starts = [start >> place & 1 for _, width, start in design.registers for place in range(width)]
    builder = Builder(len(inputs) + len(register_names))
    # For each name the literals of its bits, the lowest first.
    words = {}
    count = 1
    for port in design.inputs + design.registers:
        words[port[0]] = [2 * node for node in range(count, count + port[1])]
        count += port[1]
    for name, _, expression in design.lets:
        words[name] = _built(builder, expression, words)
    nexts = _built_bits(builder, design.nexts, words)
    outputs = _built_bits(builder, [expression for _, _, expression in design.outputs], words)
    return Circuit(
        inputs, list(zip(register_names, starts, nexts)), builder.pairs,
        list(zip(_names_of_bits(design.outputs), outputs)))


def _names_of_bits(ports):
    """Returns the names of the bits of words, given tuples of a name, a width and perhaps more."""
    return [f"{port[0]}_{place}" for port in ports for place in range(port[1])]


def _built_bits(builder, expressions, words):
    """Returns the literals of all bits of the expressions, one after the other."""
    return [literal for expression in expressions for literal in _built(builder, expression, words)]


def _built(builder, expression, words):
    """Returns the literals of an expression; raises InvalidCircuit if there are too many ands then."""
    literals = _word_of(builder, expression, words)
    # Nothing else can be wrong with the circuit, and what follows could take long.
    if len(builder.pairs) > GREATEST_COUNTS["ands"]:
        raise InvalidCircuit("ands", GREATEST_COUNTS["ands"])
    return literals


def _word_of(builder, expression, words):
    """Returns the literals of an expression, given those of the names."""
    kind = expression[0]
    if kind == "name":
        return words[expression[1]]
    if kind == "number":
        _, width, value = expression
        return [value >> place & 1 for place in range(width)]
    if kind == "pick":
        _, part, high, low = expression
        return _word_of(builder, part, words)[low:high + 1]
    if kind == "join":
        # The first word has the highest digits.
        parts = [_word_of(builder, part, words) for part in expression[1]]
        return [literal for part in reversed(parts) for literal in part]
    sides = [_word_of(builder, part, words) for part in expression[1:]]
    if kind == "?":
        (test,), yes, no = sides
        return choose_word(builder, test, yes, no)
    if kind == "not":
        return complement_of(sides[0])
    if kind == "minus":
        return negative_of(builder, sides[0])
    left, right = sides
    return word_of_sides(builder, kind, left, right)
