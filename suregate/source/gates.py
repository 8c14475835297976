"""Operators on words, built of ands. A word is the list of the literals of its bits, the lowest first."""


def both_words(builder, left, right):
    """Returns the and of two words."""
    return [builder.both(x, y) for x, y in zip(left, right)]


def either_words(builder, left, right):
    """Returns the or of two words."""
    return [builder.either(x, y) for x, y in zip(left, right)]


def unlike_words(builder, left, right):
    """Returns the exclusive or of two words."""
    return [builder.unlike(x, y) for x, y in zip(left, right)]


def complement_of(word):
    """Returns the complement of a word."""
    return [literal ^ 1 for literal in word]


def choose_word(builder, test, yes, no):
    """Returns the choice by a literal between two words."""
    return [builder.choose(test, x, y) for x, y in zip(yes, no)]


def sum_of(builder, left, right, carry):
    """Returns the sum of two words of one width and of a literal."""
    total = []
    for x, y in zip(left, right):
        either = builder.unlike(x, y)
        total.append(builder.unlike(either, carry))
        # Nothing is carried out of the highest bit.
        if len(total) < len(left):
            carry = builder.either(builder.both(x, y), builder.both(either, carry))
    return total


def difference_of(builder, left, right):
    """Returns the difference of two words."""
    return sum_of(builder, left, complement_of(right), 1)


def negative_of(builder, word):
    """Returns 0 minus a word."""
    return difference_of(builder, [0] * len(word), word)


def product_of(builder, left, right):
    """Returns the product of two words."""
    width = len(left)
    total = [0] * width
    for place, factor in enumerate(left):
        row = [builder.both(factor, literal) for literal in right[:width - place]]
        total = total[:place] + sum_of(builder, total[place:], row, 0)
    return total


def equal_literal(builder, left, right):
    """Returns the literal that tells whether two words are equal."""
    literal = 1
    for x, y in zip(left, right):
        literal = builder.both(literal, builder.unlike(x, y) ^ 1)
    return literal


def less_literal(builder, left, right, equal):
    """Returns the literal that tells whether a word is less than another; if they are equal, it is as told."""
    literal = equal
    for x, y in zip(left, right):
        # The highest bit in which they differ decides.
        literal = builder.choose(builder.unlike(x, y), y, literal)
    return literal


def word_of_sides(builder, sign, left, right):
    """Returns the literals of an operator with two sides."""
    if sign == "|":
        return either_words(builder, left, right)
    if sign == "^":
        return unlike_words(builder, left, right)
    if sign == "&":
        return both_words(builder, left, right)
    if sign == "+":
        return sum_of(builder, left, right, 0)
    if sign == "-":
        return difference_of(builder, left, right)
    if sign == "*":
        return product_of(builder, left, right)
    if sign == "==":
        return [equal_literal(builder, left, right)]
    if sign == "!=":
        return [equal_literal(builder, left, right) ^ 1]
    if sign == "<":
        return [less_literal(builder, left, right, 0)]
    return [less_literal(builder, left, right, 1)]
