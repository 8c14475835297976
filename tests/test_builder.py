"""Promises [8] to [11]: builders, levels, and circuits rebuilt with them."""

import itertools
import random
import unittest

from helpers import SuregateTest, random_circuit, random_course

from suregate.errors import InvalidCircuit
from suregate.graph.builder import Builder, image_of, leaf_images, rebuilt
from suregate.graph.circuit import Circuit
from suregate.runs.plain import run


def value_over(builder, leaves, literal):
    """Returns the value of a literal, computed straight from the builder's pairs."""
    values = [0, *leaves]
    for left, right in builder.pairs:
        values.append((values[left // 2] ^ left % 2) * (values[right // 2] ^ right % 2))
    return values[literal // 2] ^ literal % 2


class BothTest(unittest.TestCase):
    def test_new_builder(self):
        builder = Builder(3)
        self.assertEqual((3, []), (builder.leaf_count, builder.pairs))

    def both_ways(self, expected, left, right):
        for one, other in ((left, right), (right, left)):
            builder = Builder(3)
            builder.both(2, 4)
            self.assertEqual(expected, builder.both(one, other))
            self.assertEqual([(2, 4)], builder.pairs)

    def test_false_and_anything_is_false(self):
        for literal in range(10):
            self.both_ways(0, 0, literal)

    def test_complements_are_false(self):
        for literal in range(10):
            self.both_ways(0, literal, literal ^ 1)

    def test_true_leaves_the_other_one(self):
        for literal in range(10):
            self.both_ways(literal, 1, literal)

    def test_equal_literals(self):
        for literal in range(10):
            self.both_ways(literal, literal, literal)

    def test_an_and_that_is_there(self):
        self.both_ways(8, 2, 4)

    def test_new_ands(self):
        builder = Builder(3)
        self.assertEqual(8, builder.both(4, 2))
        self.assertEqual(10, builder.both(5, 2))
        self.assertEqual(12, builder.both(8, 11))
        self.assertEqual(14, builder.both(9, 6))
        self.assertEqual([(2, 4), (2, 5), (8, 11), (6, 9)], builder.pairs)
        self.assertEqual(14, builder.both(6, 9))
        self.assertEqual(4, len(builder.pairs))

    def test_pairs_of_other_marks_are_other_ands(self):
        builder = Builder(2)
        literals = [builder.both(2 ^ x, 4 ^ y) for x, y in itertools.product((0, 1), repeat=2)]
        self.assertEqual([6, 8, 10, 12], literals)
        self.assertEqual([(2, 4), (2, 5), (3, 4), (3, 5)], builder.pairs)

    def test_cases_for_all_literals(self):
        for left, right in itertools.product(range(12), repeat=2):
            builder = Builder(2)
            builder.both(2, 4)
            builder.both(3, 5)
            builder.both(2, 9)
            pairs = list(builder.pairs)
            result = builder.both(left, right)
            if 0 in (left, right) or left == right ^ 1:
                expected = 0
            elif 1 in (left, right):
                expected = right if left == 1 else left
            elif left == right:
                expected = left
            elif (min(left, right), max(left, right)) in pairs:
                expected = 2 * (3 + pairs.index((min(left, right), max(left, right))))
            else:
                expected = 12
                pairs.append((min(left, right), max(left, right)))
            self.assertEqual((expected, pairs), (result, builder.pairs), (left, right))


class OtherGatesTest(unittest.TestCase):
    def test_example(self):
        builder = Builder(2)
        self.assertEqual(11, builder.unlike(2, 4))
        self.assertEqual([(2, 5), (3, 4), (7, 9)], builder.pairs)

    def test_pairs_of_either(self):
        builder = Builder(2)
        self.assertEqual(7, builder.either(2, 5))
        self.assertEqual([(3, 4)], builder.pairs)

    def test_pairs_of_choose(self):
        builder = Builder(3)
        self.assertEqual(13, builder.choose(6, 2, 5))
        self.assertEqual([(2, 6), (5, 7), (9, 11)], builder.pairs)

    def test_pairs_of_unlike_in_the_other_order(self):
        builder = Builder(2)
        self.assertEqual(11, builder.unlike(4, 2))
        self.assertEqual([(3, 4), (2, 5), (7, 9)], builder.pairs)

    def test_values(self):
        for x, y, t in itertools.product(range(2, 8), range(2, 8), range(8)):
            builder = Builder(3)
            results = [builder.both(x, y), builder.either(x, y), builder.unlike(x, y), builder.choose(t, x, y)]
            for leaves in itertools.product((0, 1), repeat=3):
                a, b, c = [value_over(builder, leaves, literal) for literal in (x, y, t)]
                expected = [a & b, a | b, a ^ b, a if c else b]
                self.assertEqual(expected, [value_over(builder, leaves, literal) for literal in results])

    def test_trivial_gates_make_no_ands(self):
        builder = Builder(2)
        results = [
            builder.either(1, 2), builder.either(2, 0), builder.either(3, 2), builder.either(5, 5),
            builder.unlike(2, 2), builder.unlike(2, 3), builder.unlike(0, 4), builder.unlike(4, 1),
            builder.choose(1, 2, 4), builder.choose(0, 2, 4), builder.choose(2, 1, 0)]
        self.assertEqual([1, 2, 1, 5, 0, 1, 4, 5, 2, 4, 2], results)
        self.assertEqual([], builder.pairs)


class LookTest(unittest.TestCase):
    def test_pair_of(self):
        builder = Builder(2)
        builder.both(2, 5)
        builder.both(6, 4)
        self.assertEqual([None] * 6, [builder.pair_of(literal) for literal in range(6)])
        self.assertEqual([(2, 5), (2, 5), (4, 6), (4, 6)], [builder.pair_of(literal) for literal in range(6, 10)])

    def test_pair_of_the_constant_without_leaves(self):
        self.assertEqual([None, None], [Builder(0).pair_of(literal) for literal in (0, 1)])

    def test_level_of(self):
        builder = Builder(3)
        builder.both(2, 4)    # literal 8
        builder.both(6, 9)    # literal 10
        builder.both(3, 5)    # literal 12
        builder.both(13, 10)  # literal 14
        builder.both(15, 7)   # literal 16
        self.assertEqual([0] * 8, [builder.level_of(literal) for literal in range(8)])
        levels = [builder.level_of(literal) for literal in range(8, 18)]
        self.assertEqual([1, 1, 2, 2, 1, 1, 3, 3, 4, 4], levels)

    def test_levels_of_random_ands(self):
        chance = random.Random(1)
        builder = Builder(4)
        for _ in range(60):
            end = 2 * (5 + len(builder.pairs))
            builder.both(chance.randrange(end), chance.randrange(end))
        levels = [0] * 5
        for left, right in builder.pairs:
            levels.append(1 + max(levels[left // 2], levels[right // 2]))
        self.assertEqual(levels, [builder.level_of(2 * node) for node in range(len(levels))])


class ImagesTest(SuregateTest):
    def test_image_of(self):
        images = [0, 4, 7, 1]
        self.assertEqual([0, 1, 4, 5, 7, 6, 1, 0], [image_of(images, literal) for literal in range(8)])
        self.assertEqual([0, 4, 7, 1], images)

    def test_leaf_images(self):
        self.assertEqual([0], leaf_images(Circuit([], [], [(0, 0)], [])))
        self.assertEqual([0, 2, 4, 6], leaf_images(Circuit(["a"], [("p", 0, 0), ("q", 0, 0)], [(2, 4)], [])))

    def test_rebuilt(self):
        circuit = Circuit(["a", "b"], [("p", 1, 9), ("q", 0, 5)], [(2, 4), (6, 9)], [("x", 10), ("y", 13), ("z", 1)])
        builder = Builder(4)
        inner = builder.both(3, 7)
        again = rebuilt(circuit, builder, [0, 2, 5, 6, 3, inner, inner ^ 1])
        expected = Circuit(["a", "b"], [("p", 1, 2), ("q", 0, 4)], [(3, 7)], [("x", 10), ("y", 10), ("z", 1)])
        self.assertEqual(expected, again)
        builder.pairs.append((0, 0))
        self.assertEqual(expected, again)

    def test_rebuilt_circuits_run_alike(self):
        for seed in range(10):
            circuit = random_circuit(seed)
            builder = Builder(6)
            images = leaf_images(circuit)
            for left, right in circuit.ands:
                images.append(builder.both(image_of(images, left), image_of(images, right)))
            again = rebuilt(circuit, builder, images)
            self.assertEqual([name for name, _, _ in circuit.latches], [name for name, _, _ in again.latches])
            self.assertEqual([start for _, start, _ in circuit.latches], [start for _, start, _ in again.latches])
            self.assertEqual([name for name, _ in circuit.outputs], [name for name, _ in again.outputs])
            course = random_course(seed, 3, 20)
            self.assertEqual(run(circuit, course), run(again, course))

    def test_rebuilt_circuit_with_too_many_ands(self):
        circuit = Circuit([f"i{k}" for k in range(16)], [(f"q{k}", 0, 0) for k in range(40)], [], [])
        builder = Builder(56)
        pairs = [(x, y) for x, y in itertools.combinations(range(2, 114), 2) if x // 2 != y // 2]
        for x, y in pairs[:2000]:
            builder.both(x, y)
        self.assertEqual(pairs[:2000], rebuilt(circuit, builder, leaf_images(circuit)).ands)
        builder.both(*pairs[2000])
        fields = {"part": "ands", "index": 2000}
        self.assert_error(InvalidCircuit, fields, rebuilt, circuit, builder, leaf_images(circuit))

    def test_rebuilt_circuit_with_wrong_images(self):
        circuit = Circuit(["a"], [("q", 0, 2)], [], [("x", 0), ("y", 4)])
        for images, part, index in (([0, 6, 4], "latches", 0), ([0, 2, 6], "outputs", 1), ([-2, 2, 4], "outputs", 0)):
            fields = {"part": part, "index": index}
            self.assert_error(InvalidCircuit, fields, rebuilt, circuit, Builder(2), images)


if __name__ == "__main__":
    unittest.main()
