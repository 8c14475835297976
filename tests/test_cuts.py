"""Promise [50]: cuts of ands."""

import itertools
import unittest

from helpers import SuregateTest, cuts_off, edge_circuits, plain, random_circuit, tree_circuit

from suregate.errors import InvalidCount, TooHard
from suregate.graph.net import Net
from suregate.tables.cuts import cuts_of


def slow_cuts(net, node, size):
    """Returns the cuts of an and, by trying all sets of nodes."""
    others = [place for place in range(1, node)]
    found = []
    for count in range(size + 1):
        for nodes in itertools.combinations(others, count):
            parts = [nodes[:place] + nodes[place + 1:] for place in range(count)]
            if cuts_off(net, nodes, node) and not any(cuts_off(net, part, node) for part in parts):
                found.append(nodes)
    return found


def wide_net(leaf_count):
    """Returns a net with a tree of ands over so many inputs."""
    ands = []
    unread = [2 * node for node in range(1, leaf_count + 1)]
    while len(unread) > 1:
        ands.append((unread.pop(0), unread.pop(0)))
        unread.append(2 * (leaf_count + len(ands)))
    return Net(leaf_count, [], ands)


class CutsTest(SuregateTest):
    def test_example(self):
        self.assertEqual([[(1, 2)], [(3, 4), (1, 2, 3)]], cuts_of(Net(3, [], [(2, 4), (6, 8)]), 3))

    def test_sizes(self):
        net = wide_net(8)
        for size in (0, 7, -1, 100):
            before = plain(net)
            self.assert_error(InvalidCount, {}, cuts_of, net, size)
            self.assertEqual(before, plain(net))
        for size in range(1, 7):
            cuts = cuts_of(net, size)
            self.assertEqual([slow_cuts(net, node, size) for node in range(9, 16)], cuts)
            self.assertTrue(all(len(nodes) <= size for row in cuts for nodes in row))
        self.assertEqual([[]] * 7, cuts_of(net, 1))
        self.assertEqual(6, max(len(nodes) for nodes in cuts_of(net, 6)[-1]))

    def test_wrong_sizes_without_ands(self):
        self.assert_error(InvalidCount, {}, cuts_of, Net(0, [], []), 0)
        self.assertEqual([], cuts_of(Net(0, [], []), 1))
        self.assertEqual([], cuts_of(Net(2, [(0, 1)], []), 6))

    def test_by_definition(self):
        nets = [circuit.as_net() for circuit in edge_circuits()]
        nets += [random_circuit(seed, 2, 2, 7, 0).as_net() for seed in range(8)]
        nets += [tree_circuit(seed, 4, 1, 7).as_net() for seed in range(6)]
        for net in nets:
            before = plain(net)
            for size in (1, 2, 3, 4, 6):
                expected = [slow_cuts(net, node, size) for node in range(net.first_and, net.node_count)]
                self.assertEqual(expected, cuts_of(net, size))
            self.assertEqual(before, plain(net))

    def test_constant_literals(self):
        net = Net(1, [], [(0, 1), (1, 1), (2, 1), (4, 2), (8, 0), (4, 6)])
        self.assertEqual([[()], [()], [(1,)], [(1,)], [(1,), (4,)], [()]], cuts_of(net, 4))

    def test_a_part_that_cuts_off_as_well(self):
        # Node 5 reads 3 and 4, and both read 1: so 3 and 1 cut off, but 1, 2 and 3 do not count.
        net = Net(2, [], [(2, 4), (2, 6), (6, 8)])
        self.assertEqual([[(1, 2)], [(1, 2), (1, 3)], [(1, 2), (1, 3), (3, 4)]], cuts_of(net, 4))
        # Both literals of one node.
        self.assertEqual([[(1,)], [(1,), (2,)]], cuts_of(Net(1, [], [(2, 3), (4, 4)]), 3))

    def test_latches_are_leaves(self):
        net = Net(1, [(0, 6), (1, 8)], [(4, 6), (8, 2)])
        self.assertEqual([[(2, 3)], [(1, 4), (1, 2, 3)]], cuts_of(net, 6))

    def test_order(self):
        for row in cuts_of(random_circuit(9, 4, 4, 30, 0).as_net(), 5):
            self.assertEqual(sorted(row, key=lambda nodes: (len(nodes), nodes)), row)
            self.assertTrue(all(tuple(sorted(set(nodes))) == nodes for nodes in row))

    def chain_net(self, count):
        """Returns a net with a chain of ands that all read input 1; the k-th one has k cuts of two nodes."""
        return Net(2, [], [(2, 4)] + [(2, 2 * node) for node in range(3, 2 + count)])

    def test_500_cuts(self):
        self.assertEqual(list(range(1, 501)), [len(row) for row in cuts_of(self.chain_net(500), 2)])

    def test_501_cuts(self):
        net = self.chain_net(501)
        before = plain(net)
        for size in (2, 6):
            self.assert_error(TooHard, {}, cuts_of, net, size)
        self.assertEqual(before, plain(net))
        self.assertEqual([[]] * 501, cuts_of(net, 1))

    def test_too_many_cuts_of_an_inner_and(self):
        # The last and has the only cut, the empty one, but one before it has too many.
        ands = self.chain_net(501).ands + [(0, 1)]
        self.assert_error(TooHard, {}, cuts_of, Net(2, [], ands), 3)

    def test_lists_are_new(self):
        net = wide_net(4)
        cuts = cuts_of(net, 3)
        cuts[0].clear()
        cuts.clear()
        self.assertEqual([[(1, 2)], [(3, 4)]], cuts_of(net, 3)[:2])


if __name__ == "__main__":
    unittest.main()
