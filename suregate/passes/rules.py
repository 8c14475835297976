"""The rules that look at the literals of ands before a new and is built of them."""

from suregate.graph.builder import Builder


class RuleBuilder(Builder):
    """A builder that makes an and only if no rule applies to its two literals."""

    def both(self, left, right):
        """Returns the literal of the and of two literals; may make an and."""
        ruled = (left, right)
        # Each rule puts a literal of a smaller node in the place of one of the two, so this ends.
        while ruled is not None:
            left, right = ruled
            ruled = ruled_pair(self, left, right)
        return super().both(left, right)


def ruled_pair(builder, x, y):
    """Returns two literals whose and is the result of a rule for the and of x and y, or None if no rule applies.

    A result that is a single literal is told as the and of this literal and 1.
    """
    for one, other in ((x, y), (y, x)):
        for a, b in _orders_of(builder, one):
            ruled = _rule_of_one(one, other, a, b)
            if ruled is not None:
                return ruled
            for c, d in _orders_of(builder, other):
                ruled = _rule_of_both(one, other, (a, b), (c, d))
                if ruled is not None:
                    return ruled
    return None


def _orders_of(builder, literal):
    """Returns the two orders of the pair of the literal's and, or nothing if it has no and."""
    pair = builder.pair_of(literal)
    if pair is None:
        return []
    return [pair, (pair[1], pair[0])]


def _rule_of_one(x, y, a, b):
    """Applies the rules 1 to 4 to x, whose and has the literals a and b, and y."""
    is_plain = x & 1 == 0
    if y == a:
        return (x, 1) if is_plain else (y, b ^ 1)
    if y == a ^ 1:
        return (0, 1) if is_plain else (y, 1)
    return None


def _rule_of_both(x, y, x_pair, y_pair):
    """Applies the rules 5 to 9 to x and y, the literals of ands with these pairs."""
    a, b = x_pair
    c, d = y_pair
    marks = (x & 1, y & 1)
    if marks == (0, 0) and a == c ^ 1:
        return 0, 1
    if marks == (0, 0) and a == c:
        return x, d
    if marks == (1, 0) and a == c ^ 1:
        return y, 1
    if marks == (1, 0) and a == c:
        return y, b ^ 1
    if marks == (1, 1) and a == c and b == d ^ 1:
        return a ^ 1, 1
    return None
