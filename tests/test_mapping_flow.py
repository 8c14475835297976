"""Promises [49], [50] and [86], as far as ways_or_cut speaks of them: cuts of allowed nodes, or ways."""

import random
import unittest

from helpers import SuregateTest, cuts_off, edge_circuits, plain, random_circuit, tree_circuit
from mapping_check import is_way, least_cut, share_no

from suregate.graph.net import Net
from suregate.mapping.flow import ways_or_cut


class WaysOrCutTest(SuregateTest):
    def check(self, net, node, allowed, size):
        """Checks the answer for a set of allowed nodes; returns its word."""
        limit = [place in allowed for place in range(net.node_count)]
        before = plain([net, limit])
        answer = ways_or_cut(net, node, limit, size)
        self.assertEqual(before, plain([net, limit]))
        self.assertIs(tuple, answer.__class__)
        word, found = answer
        # The entries of the constant and of the and are not read.
        allowed = set(allowed) - {0, node}
        expected = least_cut(net, node, {place for place in allowed if place < node}, size)
        if expected is None:
            self.assertEqual("ways", word)
            self.assertIs(list, found.__class__)
            self.assertEqual(size + 1, len(found))
            for way in found:
                self.assertTrue(is_way(net, way, node), way)
                self.assertIs(list, way.__class__)
            self.assertTrue(share_no(found, allowed))
        else:
            self.assertEqual("cut", word)
            self.assertIs(tuple, found.__class__)
            self.assertEqual(len(expected), len(found))
            self.assertEqual(sorted(set(found)), list(found))
            self.assertTrue(set(found) <= allowed)
            self.assertTrue(cuts_off(net, found, node))
            for place in range(len(found)):
                self.assertFalse(cuts_off(net, found[:place] + found[place + 1:], node))
        return word

    def test_small_nets_by_trying_all_sets(self):
        chance = random.Random(5)
        words = {"cut": 0, "ways": 0}
        nets = [circuit.as_net() for circuit in edge_circuits()]
        nets += [random_circuit(seed, 2, 2, 8, 0).as_net() for seed in range(25)]
        nets += [tree_circuit(seed, 5, 1, 8).as_net() for seed in range(25)]
        for net in nets:
            for node in range(net.first_and, net.node_count):
                for size in (1, 2, 3, 5, 8):
                    allowed = {place for place in range(net.node_count) if chance.random() < chance.random()}
                    words[self.check(net, node, allowed, size)] += 1
        self.assertGreater(min(words.values()), 300)

    def test_all_and_none_allowed(self):
        for seed in range(10):
            net = tree_circuit(seed, 6, 0, 9).as_net()
            for node in range(net.first_and, net.node_count):
                for size in (1, 2, 4, 6):
                    self.check(net, node, set(range(net.node_count)), size)
                    self.check(net, node, set(), size)

    def test_ands_of_constants(self):
        net = Net(2, [], [(0, 1), (1, 6), (7, 2), (0, 0)])
        for node in (3, 4, 6):
            for allowed in (set(), {1, 2, 3, 4, 5, 6, 0}):
                self.assertEqual("cut", self.check(net, node, allowed, 1))
                self.assertEqual(("cut", ()), ways_or_cut(net, node, [place in allowed for place in range(7)], 1))
        self.assertEqual(("cut", (1,)), ways_or_cut(net, 5, [True] * 7, 1))
        self.assertEqual("ways", self.check(net, 5, {2, 3, 4}, 1))

    def test_entries_that_are_not_read(self):
        net = Net(2, [], [(2, 4), (6, 3)])
        for told in (True, False):
            self.assertEqual(("cut", (1, 2)), ways_or_cut(net, 3, [told, True, True, told, False], 2))
            self.assertEqual("ways", ways_or_cut(net, 3, [told, True, False, told, False], 2)[0])

    def test_way_that_must_be_led_differently(self):
        # From the and 8 back, the way over 7 and 4 to the input 1 must make room for the one over 5.
        net = Net(3, [], [(2, 4), (3, 2), (8, 10), (8, 6), (12, 14)])
        for size in (1, 2, 3):
            for allowed in ({1, 2, 3}, {1, 2, 3, 4, 5}, {1, 2, 3, 4, 5, 6, 7}, {4, 5, 3}, {4, 5, 6, 7}):
                self.check(net, 8, allowed, size)

    def test_way_that_is_undone_over_several_nodes(self):
        # The first way goes over 1, 3 and 7; for the second one over 1 and 11, it must come over 6 and 7 instead.
        net = Net(2, [], [(2, 2), (4, 4), (8, 8), (10, 10), (6, 12), (2, 2), (16, 16), (18, 18), (20, 20), (14, 22)])
        self.assertEqual("ways", self.check(net, 12, set(range(1, 12)), 1))
        self.assertEqual("cut", self.check(net, 12, set(range(1, 12)), 2))

    def test_way_that_leaves_a_step_to_others(self):
        # Two ways step from 4 to 7, to the allowed 8 and 9; for the third one over 14, one of them comes over 6 instead.
        net = Net(3, [], [
            (2, 4), (6, 6), (10, 10), (8, 12), (14, 14), (14, 14), (16, 18), (8, 8), (22, 22), (24, 24), (26, 26),
            (20, 28)])
        self.assertEqual("ways", self.check(net, 15, {1, 2, 3, 8, 9}, 2))
        self.assertEqual("cut", self.check(net, 15, {1, 2, 3, 8, 9}, 3))

    def test_one_way_several_times(self):
        net = Net(1, [], [(2, 2), (4, 5), (6, 6)])
        self.assertEqual(("ways", [[1, 2, 3, 4]] * 4), ways_or_cut(net, 4, [False] * 5, 3))
        self.assertEqual(("cut", (2,)), ways_or_cut(net, 4, [False, False, True, False, False], 1))

    def test_many_ways(self):
        # A row of ands over thirty inputs: each of them begins a way.
        ands = [(2, 4)] + [(2 * (31 + k), 2 * (k + 3)) for k in range(28)]
        net = Net(30, [], ands)
        limit = [place <= 30 for place in range(net.node_count)]
        word, ways = ways_or_cut(net, 59, limit, 29)
        self.assertEqual("ways", word)
        self.assertEqual(list(range(1, 31)), sorted(way[0] for way in ways))
        self.assertEqual(("cut", tuple(range(1, 31))), ways_or_cut(net, 59, limit, 30))
        self.assertEqual(("cut", (30, 58)), ways_or_cut(net, 59, [True] * 60, 30))

    def test_large_nets(self):
        for seed in range(4):
            net = tree_circuit(seed, 16, 40, 1900).as_net()
            limit = [place < net.first_and or place % 3 == 0 for place in range(net.node_count)]
            allowed = {place for place in range(net.node_count) if limit[place]}
            for node in range(net.node_count - 200, net.node_count):
                word, found = ways_or_cut(net, node, limit, 6)
                if word == "cut":
                    self.assertTrue(cuts_off(net, found, node))
                    self.assertTrue(set(found) <= allowed - {node})
                else:
                    self.assertTrue(all(is_way(net, way, node) for way in found))
                    self.assertTrue(share_no(found, allowed - {node}))


if __name__ == "__main__":
    unittest.main()
