"""Promises [47] to [49]: tables, halves and tables of cones."""

import itertools
import random
import unittest

from helpers import SuregateTest, cuts_off, plain, random_circuit, slow_table

from suregate.errors import InvalidCut
from suregate.graph.net import Net
from suregate.tables.tables import cone_table, depends_on, full_table, half_table, leaf_table


def some_tables(count):
    """Returns all tables, or many of them."""
    end = 1 << (1 << count)
    if count < 4:
        return list(range(end))
    chance = random.Random(count)
    return [0, end - 1] + [chance.randrange(end) for _ in range(60)] + [leaf_table(k, count) for k in range(count)]


class TablesTest(unittest.TestCase):
    def test_example(self):
        self.assertEqual(12, leaf_table(1, 2))

    def test_full_tables(self):
        self.assertEqual([1, 3, 15, 255, 2 ** 16 - 1, 2 ** 32 - 1, 2 ** 64 - 1], [full_table(k) for k in range(7)])

    def test_leaf_tables(self):
        self.assertEqual([2], [leaf_table(k, 1) for k in range(1)])
        self.assertEqual([10, 12], [leaf_table(k, 2) for k in range(2)])
        self.assertEqual([170, 204, 240], [leaf_table(k, 3) for k in range(3)])
        for count in range(7):
            for index in range(count):
                expected = sum((point >> index & 1) << point for point in range(1 << count))
                self.assertEqual(expected, leaf_table(index, count))

    def test_halves(self):
        for count in range(7):
            for table in some_tables(count):
                for index in range(count):
                    for value in (0, 1):
                        half = 0
                        for point in range(1 << count):
                            given = point & ~(1 << index) | value << index
                            half |= (table >> given & 1) << point
                        self.assertEqual(half, half_table(table, index, value, count))

    def test_depends_on(self):
        for count in range(7):
            for table in some_tables(count):
                for index in range(count):
                    differs = any(
                        table >> point & 1 != table >> (point ^ 1 << index) & 1 for point in range(1 << count))
                    self.assertIs(differs, depends_on(table, index, count))

    def test_leaves_depend_on_themselves_only(self):
        for count in range(1, 7):
            for index, other in itertools.product(range(count), repeat=2):
                self.assertIs(index == other, depends_on(leaf_table(index, count), other, count))
                self.assertIs(False, depends_on(full_table(count), index, count))
                self.assertIs(False, depends_on(0, index, count))


# Nodes: 1 to 3 inputs, 4 and 5 latches, 6 and on the ands.
NET = Net(3, [(0, 12), (1, 2)], [(2, 9), (4, 6), (13, 15), (16, 10), (1, 18), (0, 8), (23, 22)])


def first_loose(net, node, leaves):
    """Returns the smallest input or latch that leads to the node around the leaves, or None."""
    if node in leaves or node == 0:
        return None
    if node < net.first_and:
        return node
    left, right = net.ands[node - net.first_and]
    found = [first_loose(net, literal // 2, leaves) for literal in (left, right)]
    return min([node for node in found if node is not None], default=None)


class ConeTableTest(SuregateTest):
    def test_example(self):
        self.assertEqual(2, cone_table(Net(2, [], [(2, 5)]), 6, [1, 2]))

    def refused(self, node, net, literal, leaves):
        before = plain([net, leaves])
        self.assert_error(InvalidCut, {"node": node}, cone_table, net, literal, leaves)
        self.assertEqual(before, plain([net, leaves]))

    def test_the_constant(self):
        for leaves in ([], [1], [7, 3], [1, 2, 3, 4, 5, 6]):
            self.assertEqual(0, cone_table(NET, 0, leaves))
            self.assertEqual(full_table(len(leaves)), cone_table(NET, 1, leaves))

    def test_nodes_of_the_list(self):
        for leaves in ([1], [4], [9], [8, 2], [1, 4, 9, 12, 7, 3], [3, 7, 12, 9, 4, 1]):
            for index, node in enumerate(leaves):
                self.assertEqual(leaf_table(index, len(leaves)), cone_table(NET, 2 * node, leaves))
                self.assertEqual(
                    full_table(len(leaves)) - leaf_table(index, len(leaves)), cone_table(NET, 2 * node + 1, leaves))

    def test_inputs_and_latches_that_are_not_in_the_list(self):
        self.refused(1, NET, 2, [])
        self.refused(1, NET, 3, [2, 3])
        self.refused(5, NET, 10, [4])
        self.refused(4, NET, 9, [6, 1, 12])

    def test_order_of_the_list(self):
        # Node 6 is true if input 1 is and latch 4 is not.
        self.assertEqual(0b0010, cone_table(NET, 12, [1, 4]))
        self.assertEqual(0b0100, cone_table(NET, 12, [4, 1]))
        self.assertEqual(0b1011, cone_table(NET, 13, [4, 1]))
        self.assertEqual(0b00001010, cone_table(NET, 12, [1, 2, 4]))

    def test_the_smallest_node_is_told(self):
        # Node 9 comes from 1 and 4 by node 6, from 2 and 3 by node 7, and from 5.
        self.refused(1, NET, 18, [])
        self.refused(2, NET, 18, [1])
        self.refused(2, NET, 18, [6])
        self.refused(4, NET, 18, [1, 7])
        self.refused(4, NET, 18, [1, 2, 3, 5])
        self.refused(5, NET, 18, [8])
        self.refused(5, NET, 18, [6, 7])
        self.refused(3, NET, 19, [6, 2])
        self.refused(1, NET, 18, [7, 5])

    def test_ways_that_end_at_the_list_do_not_count(self):
        # The ands 10 and 11 have constant literals; the constant needs no leaf.
        self.refused(1, NET, 20, [])
        self.assertEqual(2, cone_table(NET, 20, [9]))
        self.refused(4, NET, 22, [9])
        self.assertEqual(0, cone_table(NET, 22, [4]))

    def test_leaves_that_do_not_matter(self):
        self.assertEqual(0b10001000, cone_table(NET, 14, [2, 3, 12]))
        self.assertEqual(0b11001100, cone_table(NET, 2, [12, 1, 9]))
        # A leaf hides what is below it, even if it is below the literal's node only by another leaf.
        self.assertEqual(0b0010, cone_table(NET, 16, [8, 6]) & 0b0010)

    def test_leaves_take_any_value(self):
        # Node 6 and its own input 1 are both in the list.
        net = Net(2, [], [(2, 4), (6, 3)])
        self.assertEqual(0b0010, cone_table(net, 8, [3, 1]))

    def test_by_definition(self):
        refused = 0
        for seed in range(12):
            net = random_circuit(seed, 2, 2, 6, 0).as_net()
            chance = random.Random(seed)
            for count in range(7):
                for _ in range(20):
                    leaves = chance.sample(range(1, net.node_count), count)
                    literal = chance.randrange(2 * net.node_count)
                    before = plain([net, leaves])
                    if cuts_off(net, leaves, literal // 2):
                        self.assertEqual(slow_table(net, literal, leaves), cone_table(net, literal, leaves))
                    else:
                        refused += 1
                        self.refused(first_loose(net, literal // 2, leaves), net, literal, leaves)
                    self.assertEqual(before, plain([net, leaves]))
        self.assertGreater(refused, 100)

    def test_deep_cones(self):
        net = Net(2, [], [(2, 4)] + [(2 * node, 2 + node % 2) for node in range(3, 2002)])
        self.assertEqual(slow_table(net, 4004, [1, 2]), cone_table(net, 4004, [1, 2]))
        self.refused(2, net, 4004, [1])


if __name__ == "__main__":
    unittest.main()
