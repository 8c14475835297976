"""Promise [53]: networks of tables."""

import random
import unittest

from helpers import plain

from suregate.tables.networks import network_for, network_table
from suregate.tables.tables import full_table, leaf_table


def slow_network_table(network, count):
    pairs, literal = network
    table = 0
    for point in range(1 << count):
        values = [0] + [point >> index & 1 for index in range(count)]
        for left, right in pairs:
            values.append((values[left // 2] ^ left & 1) & (values[right // 2] ^ right & 1))
        table |= (values[literal // 2] ^ literal & 1) << point
    return table


class NetworkTableTest(unittest.TestCase):
    def test_by_hand(self):
        self.assertEqual(0, network_table(([], 0), 3))
        self.assertEqual(255, network_table(([], 1), 3))
        self.assertEqual(1, network_table(([], 1), 0))
        self.assertEqual(0b1100, network_table(([], 4), 2))
        self.assertEqual(0b0011, network_table(([], 5), 2))
        self.assertEqual(0b0100, network_table(([(3, 4)], 6), 2))
        self.assertEqual(0b0110, network_table(([(2, 5), (3, 4), (7, 9)], 11), 2))
        self.assertEqual(0b0101, network_table(([(2, 4), (2, 6)], 3), 2))

    def test_by_definition(self):
        chance = random.Random(3)
        for count in range(7):
            for _ in range(20):
                pairs = [
                    (chance.randrange(2 * node), chance.randrange(2 * node))
                    for node in range(1 + count, 1 + count + chance.randrange(12))]
                network = (pairs, chance.randrange(2 * (1 + count + len(pairs))))
                before = plain(network)
                self.assertEqual(slow_network_table(network, count), network_table(network, count))
                self.assertEqual(before, plain(network))


class NetworkForTest(unittest.TestCase):
    def check(self, table, count):
        network = network_for(table, count)
        self.assertIs(tuple, network.__class__)
        pairs, literal = network
        for node, (left, right) in enumerate(pairs, start=1 + count):
            self.assertTrue(0 <= left < 2 * node and 0 <= right < 2 * node)
        self.assertTrue(0 <= literal < 2 * (1 + count + len(pairs)))
        self.assertEqual(table, slow_network_table(network, count))
        self.assertEqual(table, network_table(network, count))
        other_pairs, _ = network_for(full_table(count) - table, count)
        self.assertEqual(len(pairs), len(other_pairs))
        # The circuit of a netlist counts on this ([88]).
        self.assertLessEqual(len(pairs), 3 * 2 ** count)
        return pairs

    def test_constant_tables(self):
        for count in range(7):
            self.assertEqual(([], 0), network_for(0, count))
            self.assertEqual(([], 1), network_for(full_table(count), count))

    def test_leaves(self):
        for count in range(1, 7):
            for index in range(count):
                self.assertEqual(([], 2 * index + 2), network_for(leaf_table(index, count), count))
                self.assertEqual(([], 2 * index + 3), network_for(full_table(count) - leaf_table(index, count), count))

    def test_all_small_tables(self):
        for count in range(4):
            for table in range(full_table(count) + 1):
                self.check(table, count)

    def test_larger_tables(self):
        chance = random.Random(4)
        for count in (4, 5, 6):
            for _ in range(40):
                self.check(chance.randrange(full_table(count) + 1), count)

    def test_networks_are_small(self):
        # One and; an exclusive or; a choice; a majority; a parity of six; a product of six.
        self.assertEqual(1, len(self.check(0b1000, 2)))
        self.assertEqual(1, len(self.check(0b0111, 2)))
        self.assertEqual(3, len(self.check(0b0110, 2)))
        self.assertEqual(3, len(self.check(0b11001010, 3)))
        self.assertEqual(4, len(self.check(0b11101000, 3)))
        self.assertEqual(15, len(self.check(sum(1 << p for p in range(64) if bin(p).count("1") % 2), 6)))
        self.assertEqual(5, len(self.check(1 << 63, 6)))

    def test_lists_are_new(self):
        pairs, _ = network_for(6, 2)
        pairs.clear()
        self.assertEqual(3, len(network_for(6, 2)[0]))


if __name__ == "__main__":
    unittest.main()
