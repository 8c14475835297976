"""Promises [51] and [52]: lists of products."""

import itertools
import random
import unittest

from suregate.tables.products import products_table, sum_of_products
from suregate.tables.tables import full_table


def slow_products_table(products, count):
    table = 0
    for point in range(1 << count):
        told = [[point >> literal // 2 & 1 != literal & 1 for literal in literals] for literals in products]
        table |= any(all(row) for row in told) << point
    return table


class ProductsTableTest(unittest.TestCase):
    def test_edges(self):
        for count in range(7):
            self.assertEqual(0, products_table([], count))
            self.assertEqual(full_table(count), products_table([()], count))
            self.assertEqual(full_table(count), products_table([(), ()], count))

    def test_literals(self):
        self.assertEqual(0b10, products_table([(0,)], 1))
        self.assertEqual(0b01, products_table([(1,)], 1))
        self.assertEqual(0b1000, products_table([(0, 2)], 2))
        self.assertEqual(0b0010, products_table([(0, 3)], 2))
        self.assertEqual(0b0111, products_table([(1,), (3,)], 2))
        self.assertEqual(0b1001, products_table([(1, 3), (0, 2)], 2))

    def test_by_definition(self):
        chance = random.Random(1)
        for count in range(7):
            for _ in range(30):
                products = []
                for _ in range(chance.randrange(5)):
                    leaves = sorted(chance.sample(range(count), chance.randrange(count + 1)))
                    products.append(tuple(2 * leaf + chance.randrange(2) for leaf in leaves))
                before = list(products)
                self.assertEqual(slow_products_table(products, count), products_table(products, count))
                self.assertEqual(before, products)


class SumOfProductsTest(unittest.TestCase):
    def check(self, table, count):
        products = sum_of_products(table, count)
        self.assertEqual(sorted(products), products)
        self.assertEqual(table, slow_products_table(products, count))
        for literals in products:
            self.assertIs(tuple, literals.__class__)
            self.assertEqual(sorted(literals), list(literals))
            self.assertEqual(len(literals), len({literal // 2 for literal in literals}))
            self.assertTrue(all(0 <= literal < 2 * count for literal in literals))
        for place, literals in enumerate(products):
            others = products[:place] + products[place + 1:]
            self.assertNotEqual(table, products_table(others, count), (table, products))
            for literal in literals:
                shorter = tuple(other for other in literals if other != literal)
                self.assertNotEqual(table, products_table(others + [shorter], count), (table, products))

    def test_example(self):
        self.assertEqual([(0, 2)], sum_of_products(8, 2))

    def test_constant_tables(self):
        for count in range(7):
            self.assertEqual([], sum_of_products(0, count))
            self.assertEqual([()], sum_of_products(full_table(count), count))

    def test_all_small_tables(self):
        for count in range(4):
            for table in range(full_table(count) + 1):
                self.check(table, count)

    def test_larger_tables(self):
        chance = random.Random(2)
        for count in (4, 5, 6):
            for _ in range(60):
                self.check(chance.randrange(full_table(count) + 1), count)
            for _ in range(20):
                # Few points, or all but few.
                table = sum({1 << chance.randrange(1 << count) for _ in range(4)})
                self.check(table, count)
                self.check(full_table(count) - table, count)

    def test_tables_with_many_irredundant_lists(self):
        # A ring of points, each next to two others: three products are enough, and six are too many.
        ring = sum(1 << point for point in (1, 3, 2, 6, 4, 5))
        self.check(ring, 3)
        parity = sum(1 << point for point in range(64) if bin(point).count("1") % 2)
        self.check(parity, 6)
        self.assertEqual(32, len(sum_of_products(parity, 6)))

    def test_lists_are_new(self):
        sum_of_products(6, 2).clear()
        self.assertEqual(2, len(sum_of_products(6, 2)))

    def test_single_products(self):
        for marks in itertools.product((0, 1, None), repeat=4):
            literals = tuple(2 * leaf + mark for leaf, mark in enumerate(marks) if mark is not None)
            self.assertEqual([literals], sum_of_products(slow_products_table([literals], 4), 4))


if __name__ == "__main__":
    unittest.main()
