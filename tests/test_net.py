"""Promise [7]: nets, and how their nodes are numbered [4]."""

import unittest

from suregate.graph.net import Net


class NetTest(unittest.TestCase):
    def test_fields(self):
        net = Net(2, [(1, 5)], [(2, 4), (3, 7)])
        self.assertEqual((2, [(1, 5)], [(2, 4), (3, 7)]), (net.input_count, net.latches, net.ands))

    def test_numbers_of_nodes(self):
        cases = [
            (Net(0, [], []), (1, 1, 1)),
            (Net(3, [], []), (4, 4, 4)),
            (Net(0, [(0, 0), (1, 1)], []), (1, 3, 3)),
            (Net(0, [], [(0, 0)]), (1, 1, 2)),
            (Net(2, [(0, 0)], [(0, 0), (2, 3), (4, 6)]), (3, 4, 7)),
        ]
        for net, numbers in cases:
            self.assertEqual(numbers, (net.first_latch, net.first_and, net.node_count))

    def test_numbers_follow_the_lists(self):
        net = Net(1, [], [])
        net.latches.append((0, 2))
        net.ands.append((2, 4))
        self.assertEqual((2, 3, 4), (net.first_latch, net.first_and, net.node_count))

    def test_lists_are_new(self):
        latches = [(0, 2)]
        ands = [(2, 4)]
        net = Net(1, latches, ands)
        latches.clear()
        ands.clear()
        self.assertEqual(([(0, 2)], [(2, 4)]), (net.latches, net.ands))

    def test_nets_are_not_checked(self):
        net = Net(99, [(7, -1)], [(5000, 5000)])
        self.assertEqual(([(7, -1)], [(5000, 5000)]), (net.latches, net.ands))


if __name__ == "__main__":
    unittest.main()
