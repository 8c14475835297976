"""Tables: the values of a function at all points of up to six leaves, as one integer."""

from suregate.errors import InvalidCut


def full_table(count):
    """Returns the table that is 1 at every point."""
    return (1 << (1 << count)) - 1


def leaf_table(index, count):
    """Returns the table of a leaf."""
    width = 1 << index
    table = ((1 << width) - 1) << width
    # Points without and points with the leaf take turns, so many of each.
    width *= 2
    while width < 1 << count:
        table |= table << width
        width *= 2
    return table


def half_table(table, index, value, count):
    """Returns the half of the table for a leaf and its value."""
    shift = 1 << index
    with_leaf = leaf_table(index, count)
    if value == 1:
        half = table & with_leaf
        return half | half >> shift
    half = table & (full_table(count) ^ with_leaf)
    return half | half << shift


def depends_on(table, index, count):
    """Tells whether the table depends on the leaf."""
    return half_table(table, index, 0, count) != half_table(table, index, 1, count)


def cone_table(net, literal, leaves):
    """Returns the table of a literal of the net over a list of nodes."""
    tables = known_tables(leaves)
    add_cone(net, literal // 2, tables, full_table(len(leaves)))
    return table_of(tables, literal, full_table(len(leaves)))


def known_tables(leaves):
    """Returns the tables of the constant and of the leaves, by their nodes."""
    tables = {0: 0}
    for index, node in enumerate(leaves):
        tables[node] = leaf_table(index, len(leaves))
    return tables


def add_cone(net, node, tables, full):
    """Adds to the tables that of the node and those of all ands on the way to it; raises InvalidCut."""
    for place in list(_cone_of(net, node, tables)):
        left, right = net.ands[place - net.first_and]
        tables[place] = table_of(tables, left, full) & table_of(tables, right, full)


def table_of(tables, literal, full):
    """Returns the table of a literal, given the tables of the nodes."""
    if literal & 1:
        return tables[literal // 2] ^ full
    return tables[literal // 2]


def _cone_of(net, node, tables):
    """Returns the ands without a table that lead to the node, itself included, in order.

    Raises InvalidCut for the smallest input or latch without a table that leads to it.
    """
    first_and = net.first_and
    found = {}
    waiting = [node]
    while waiting:
        place = waiting.pop()
        if place in tables or place in found:
            continue
        found[place] = True
        if place >= first_and:
            left, right = net.ands[place - first_and]
            waiting.append(left // 2)
            waiting.append(right // 2)
    cone = sorted(found)
    if cone and cone[0] < first_and:
        raise InvalidCut(cone[0])
    return cone
