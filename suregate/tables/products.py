"""Lists of products, and irredundant ones for tables."""

from suregate.tables.tables import depends_on, full_table, half_table, leaf_table


def products_table(products, count):
    """Returns the table of a list of products."""
    table = 0
    for literals in products:
        part = full_table(count)
        for literal in literals:
            part &= _literal_table(literal, count)
        table |= part
    return table


def sum_of_products(table, count):
    """Returns an irredundant list of products with this table, in ascending order."""
    return sorted(_cover(table, table, count, count))


def _literal_table(literal, count):
    """Returns the table of a literal of a product."""
    table = leaf_table(literal // 2, count)
    if literal & 1:
        return full_table(count) ^ table
    return table


def _cover(least, most, end, count):
    """Returns products that are true wherever `least` is 1, and only where `most` is 1.

    Both depend only on leaves before the end, and so do the products. No literal can be left out, for then a product
    would be true where `most` is 0; and each product is the only one at some point at which `least` is 1. So if both
    tables are the same, the list is irredundant.
    """
    if least == 0:
        return []
    if most == full_table(count):
        return [()]
    index = end - 1
    while not depends_on(least, index, count) and not depends_on(most, index, count):
        index -= 1
    least_without, least_with = _halves(least, index, count)
    most_without, most_with = _halves(most, index, count)
    # Where the other half of `most` is 0, only a product that names this leaf can be true.
    without = _cover(least_without & ~most_with, most_without, index, count)
    within = _cover(least_with & ~most_without, most_with, index, count)
    rest = (least_without & ~products_table(without, count)) | (least_with & ~products_table(within, count))
    both = _cover(rest, most_without & most_with, index, count)
    named = [(*literals, 2 * index + 1) for literals in without] + [(*literals, 2 * index) for literals in within]
    return named + both


def _halves(table, index, count):
    """Returns the halves of a table for a leaf without and with this leaf."""
    return half_table(table, index, 0, count), half_table(table, index, 1, count)
