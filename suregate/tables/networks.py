"""Networks of ands with a given table."""

from suregate.graph.builder import Builder
from suregate.tables.products import sum_of_products
from suregate.tables.tables import depends_on, full_table, half_table, leaf_table, table_of


def network_table(network, count):
    """Returns the table of a network."""
    pairs, literal = network
    full = full_table(count)
    tables = [0] + [leaf_table(index, count) for index in range(count)]
    for left, right in pairs:
        tables.append(table_of(tables, left, full) & table_of(tables, right, full))
    return table_of(tables, literal, full)


def network_for(table, count):
    """Returns a network with this table: the smallest one of several attempts."""
    # A table and its complement get the same ands, so only one of both is built.
    complement = full_table(count) ^ table
    least = min(table, complement)
    other = max(table, complement)
    pairs, literal = _by_halves(least, count)
    for marked, mark in ((least, 0), (other, 1)):
        new_pairs, new_literal = _by_products(marked, count)
        if len(new_pairs) < len(pairs):
            pairs, literal = new_pairs, new_literal ^ mark
    if table == least:
        return pairs, literal
    return pairs, literal ^ 1


def _by_products(table, count):
    """Returns a network that follows the products of the table."""
    builder = Builder(count)
    literal = _sum_literal(builder, sum_of_products(table, count))
    return builder.pairs, literal


def _sum_literal(builder, products):
    """Returns the literal of a list of products; a literal that occurs in several of them is taken out of them."""
    counts = {}
    for literals in products:
        for literal in literals:
            counts[literal] = counts.get(literal, 0) + 1
    most = max(list(counts.values()), default=0)
    if most < 2:
        total = 0
        for literals in products:
            total = builder.either(total, _product_literal(builder, literals))
        return total
    chosen = min([literal for literal, count in counts.items() if count == most])
    within = [
        tuple([literal for literal in literals if literal != chosen]) for literals in products if chosen in literals]
    others = [literals for literals in products if chosen not in literals]
    # The literal of leaf i is 2 * i in a product and 2 * i + 2 in a network.
    taken_out = builder.both(chosen + 2, _sum_literal(builder, within))
    return builder.either(taken_out, _sum_literal(builder, others))


def _product_literal(builder, literals):
    """Returns the literal of a product."""
    total = 1
    for literal in literals:
        total = builder.both(total, literal + 2)
    return total


def _by_halves(table, count):
    """Returns a network that chooses between halves of the table."""
    builder = Builder(count)
    known = {0: 0, full_table(count): 1}
    for index in range(count):
        known[leaf_table(index, count)] = 2 * index + 2
        known[full_table(count) ^ leaf_table(index, count)] = 2 * index + 3
    literal = _choice_literal(builder, known, table, count)
    return builder.pairs, literal


def _choice_literal(builder, known, table, count):
    """Returns the literal of a table; adds it to the known ones."""
    if table not in known:
        full = full_table(count)
        indexes = [index for index in range(count) if depends_on(table, index, count)]
        chosen = min(indexes, key=lambda place: _cost_of_choice(table, place, count))
        without = _choice_literal(builder, known, half_table(table, chosen, 0, count), count)
        within = _choice_literal(builder, known, half_table(table, chosen, 1, count), count)
        known[table] = builder.choose(2 * chosen + 2, within, without)
        known[full ^ table] = known[table] ^ 1
    return known[table]


def _cost_of_choice(table, index, count):
    """Returns on how many leaves the two halves depend; the same or complementary halves count once."""
    without = half_table(table, index, 0, count)
    within = half_table(table, index, 1, count)
    cost = _leaf_count(without, count)
    if within != without ^ full_table(count):
        cost += _leaf_count(within, count)
    return cost


def _leaf_count(table, count):
    """Returns on how many leaves the table depends."""
    return len([index for index in range(count) if depends_on(table, index, count)])
