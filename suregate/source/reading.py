"""Runs of designs, and words as bits."""

from suregate.errors import InvalidCourse
from suregate.runs.plain import LONGEST_COURSE


def bits_of_words(ports, words):
    """Returns the bits of the words, port by port, the lowest first."""
    return [word >> place & 1 for port, word in zip(ports, words) for place in range(port[1])]


def words_of_bits(ports, bits):
    """Returns the words of the ports whose bits these are."""
    words = []
    taken = 0
    for port in ports:
        word = 0
        for place in range(port[1]):
            word |= bits[taken + place] << place
        words.append(word)
        taken += port[1]
    return words


def run_design(design, course):
    """Returns the words of the outputs in all cycles of the course."""
    _check_course(design.inputs, course)
    state = [start for _, _, start in design.registers]
    answers = []
    for row in course:
        # For each name its word and its width.
        words = {name: (word, width) for (name, width), word in zip(design.inputs, row)}
        words.update({name: (word, width) for (name, width, _), word in zip(design.registers, state)})
        for name, _, expression in design.lets:
            words[name] = _word_of(expression, words)
        answers.append([_word_of(expression, words)[0] for _, _, expression in design.outputs])
        state = [_word_of(expression, words)[0] for expression in design.nexts]
    return answers


def _check_course(inputs, course):
    """Raises InvalidCourse for the first row that is surplus or is not one word for each input."""
    for index, row in enumerate(course):
        if index >= LONGEST_COURSE or len(row) != len(inputs):
            raise InvalidCourse(index)
        if not all([0 <= word < 1 << width for (_, width), word in zip(inputs, row)]):
            raise InvalidCourse(index)


def _word_of(expression, words):
    """Returns the word of an expression and its width, given those of the names."""
    kind = expression[0]
    if kind == "name":
        return words[expression[1]]
    if kind == "number":
        _, width, value = expression
        return value, width
    if kind == "pick":
        _, part, high, low = expression
        word, _ = _word_of(part, words)
        width = high - low + 1
        return (word >> low) & _mask_of(width), width
    if kind == "join":
        return _joined_word([_word_of(part, words) for part in expression[1]])
    if kind == "?":
        _, test, yes, no = expression
        chosen, _ = _word_of(test, words)
        return _word_of(yes if chosen == 1 else no, words)
    word, width = _word_of(expression[1], words)
    if kind == "not":
        return word ^ _mask_of(width), width
    if kind == "minus":
        return (-word) & _mask_of(width), width
    other, _ = _word_of(expression[2], words)
    return _word_of_sides(kind, word, other, width)


def _word_of_sides(sign, left, right, width):
    """Returns the word and the width of an operator with two sides of this width."""
    if sign == "|":
        return left | right, width
    if sign == "^":
        return left ^ right, width
    if sign == "&":
        return left & right, width
    if sign == "+":
        return (left + right) & _mask_of(width), width
    if sign == "-":
        return (left - right) & _mask_of(width), width
    if sign == "*":
        return (left * right) & _mask_of(width), width
    if sign == "==":
        return int(left == right), 1
    if sign == "!=":
        return int(left != right), 1
    if sign == "<":
        return int(left < right), 1
    return int(left <= right), 1


def _joined_word(pairs):
    """Returns the word and the width of the words in braces, the first of which has the highest digits."""
    total = 0
    total_width = 0
    for word, width in pairs:
        total = total << width | word
        total_width += width
    return total, total_width


def _mask_of(width):
    """Returns the greatest word of a width."""
    return (1 << width) - 1
