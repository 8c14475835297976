"""Promise [80]: the judge of rings."""

import random
import unittest

from helpers import SuregateTest, plain, random_circuit

from suregate.graph.circuit import Circuit
from suregate.judge.ring import fault_of_ring
from suregate.retime.search import labels_for, least_depth
from suregate.retime.weights import pin_weights

# The node 1 is the input, 2 and 3 are latches, 4 to 7 are ands. The and 4 reads the input and, over two latches, the
# and 6; the and 5 reads the and 4 twice; the and 6 reads the ands 5 and 4; the and 7 reads the constant and the and 6.
CIRCUIT = Circuit(["a"], [("q", 0, 12), ("r", 0, 4)], [(2, 6), (8, 9), (10, 8), (1, 12)], [("y", 14)])
VALID = [
    ("path", 4, ((5, 0),)), ("path", 5, ((6, 0), (4, 1))), ("path", 4, ((6, 1), (7, 1))), ("floor", 7), ("pin", 4, 0)]


def slow_link(circuit, bound, entry):
    """Returns the start, the end and the bound of an entry, or None, as [80] tells it."""
    net = circuit.as_net()
    weights = pin_weights(circuit)
    ands = range(net.first_and, net.node_count)
    if not entry:
        return None
    word, *more = entry
    if word == "floor" and len(more) == 1:
        return (more[0], 0, 0) if more[0] in ands else None
    if word == "pin" and len(more) == 2:
        node, side = more
        if node not in ands or side not in (0, 1):
            return None
        feeder, weight = weights[node - net.first_and][side]
        if feeder == -1:
            return None
        return (feeder if feeder in ands else 0), node, weight
    if word == "path" and len(more) == 2:
        start, pins = more
        end, total = start, 0
        for node, side in pins:
            if node not in ands or side not in (0, 1):
                return None
            feeder, weight = weights[node - net.first_and][side]
            if feeder != end:
                return None
            end = node
            total += weight
        if start in ands and len(pins) + 1 > bound:
            return start, end, total - 1
    return None


def slow_fault(circuit, bound, ring):
    """Returns the fault of a ring, as the document tells it."""
    links = [slow_link(circuit, bound, entry) for entry in ring]
    for index, link in enumerate(links):
        before = links[-1] if index == 0 else links[index - 1]
        if link is None or before is None or before[1] != link[0]:
            return index
    if not ring or sum(link[2] for link in links) >= 0:
        return len(ring)
    return None


def broken(chance, ring):
    """Returns the ring with a small change."""
    entries = list(ring)
    place = chance.randrange(len(entries))
    entry = list(entries[place])
    kind = chance.randrange(6)
    if kind == 0:
        del entries[place]
        return entries
    if kind == 1:
        return entries[place:] + entries[:place]
    if kind == 2:
        entry[1] += chance.choice((-1, 1, -100, 100))
    elif entry[0] == "pin":
        entry[2] = chance.choice((0, 1, 2, -1))
    elif entry[0] == "path" and entry[2]:
        pins = list(entry[2])
        at = chance.randrange(len(pins))
        if kind == 3:
            del pins[at]
        else:
            pins[at] = (pins[at][0] + chance.choice((0, 0, 1, -1)), chance.choice((0, 1, 2)))
        entry[2] = tuple(pins)
    else:
        entries.insert(place, tuple(entry))
    entries[place] = tuple(entry)
    return entries


class RingTest(SuregateTest):
    def check(self, expected, ring, depth=1, circuit=CIRCUIT):
        before = plain([circuit, ring])
        self.assertEqual(expected, fault_of_ring(circuit, depth, ring))
        self.assertEqual(before, plain([circuit, ring]))
        self.assertEqual(expected, slow_fault(circuit, depth, ring))

    def test_weights_of_the_circuit(self):
        self.assertEqual(
            [[(1, 0), (6, 2)], [(4, 0), (4, 0)], [(5, 0), (4, 0)], [(-1, 0), (6, 0)]], pin_weights(CIRCUIT))

    def test_valid_rings(self):
        self.check(None, VALID)
        self.check(None, VALID[1:] + VALID[:1])
        self.check(None, [("path", 4, ())], 0)
        self.check(None, [("path", 4, ())], -1)
        self.check(None, [("floor", 5), ("pin", 4, 0), ("path", 4, ((5, 1),))])
        self.check(None, [("path", 4, ((5, 0), (6, 0))), ("floor", 6), ("pin", 4, 0)], 2)

    def test_empty_ring(self):
        self.check(0, [])
        self.check(0, [], 5, Circuit([], [], [], []))

    def test_circuit_without_ands(self):
        circuit = Circuit(["a"], [("q", 0, 2)], [], [])
        for entry in (("floor", 1), ("floor", 0), ("pin", 2, 0), ("path", 1, ()), ("path", 0, ())):
            self.check(0, [entry], 0, circuit)

    def test_depth_decides_which_paths_are_links(self):
        ring = [("path", 4, ((6, 1), (7, 1))), ("floor", 7), ("pin", 4, 0)]
        for depth in (-5, 0, 1, 2):
            self.check(None, ring, depth)
        for depth in (3, 4, 100):
            self.check(0, ring, depth)

    def test_sum_of_bounds(self):
        # A single pin that leads round, with one latch and with none at all.
        circuit = Circuit([], [("q", 0, 4)], [(2, 2)], [])
        self.check(1, [("pin", 2, 0)], 3, circuit)
        self.check(1, [("path", 2, ((2, 0),))], 1, circuit)
        self.check(None, [("path", 2, ((2, 0),)), ("path", 2, ())], 0, circuit)
        self.check(2, [("pin", 2, 0), ("path", 2, ())], 0, circuit)
        self.check(2, [("floor", 4), ("pin", 4, 0)])
        self.check(4, [("floor", 4), ("pin", 4, 0)] * 2)

    def test_other_words_and_numbers_of_entries(self):
        for entry in (
                (), ("floor",), ("floor", 7, 0), ("pin", 7), ("pin", 7, 1, 0), ("path", 7), ("path", 7, (), 0),
                ("flor", 7), ("", 7), ("pins", 4, 0), ("PIN", 4, 0), ("floor", ), ("path", 4, ((6, 1), (7, 1)), ())):
            self.check(3, VALID[:3] + [entry] + VALID[4:])
            self.check(0, [entry] + VALID[1:])
            # What is no link ends nowhere, so the first entry does not start there.
            self.check(0, VALID[:4] + [entry])

    def test_words_of_other_links(self):
        for entry in (("pin", 4, ((6, 1), (7, 1))), ("floor", 4, 0), ("pin", 7), ("floor", 4, ((6, 1), (7, 1)))):
            self.check(2, VALID[:2] + [entry] + VALID[3:])
        self.assertEqual(4, fault_of_ring(CIRCUIT, 1, VALID[:3] + [("floor", 7), ("path", 4, 0), ("pin", 4, 0)]))

    def test_ands_that_are_none(self):
        for node in (3, 1, 0, -1, 8, 100):
            self.check(1, [("path", 4, ((5, 0),)), ("floor", node), ("pin", 4, 0)])
            self.check(2, [("path", 4, ((5, 0),)), ("floor", 5), ("pin", node, 0), ("floor", 4), ("pin", 4, 0)])
            self.check(0, [("path", node, ()), ("floor", 4), ("pin", 4, 0)], 0)
            self.check(0, [("path", 4, ((node, 0),)), ("floor", 5), ("pin", 4, 0)])

    def test_sides(self):
        for side in (-1, 2, 7):
            self.check(4, VALID[:4] + [("pin", 4, side)] + VALID)
            self.check(0, [("path", 4, ((5, side),)), ("floor", 5), ("pin", 4, 0)])
        self.check(None, [("path", 4, ((5, 1),)), ("floor", 5), ("pin", 4, 0)])
        # The pin on the other side has another feeder.
        self.check(4, VALID[:4] + [("pin", 4, 1)])

    def test_free_pins(self):
        self.check(0, [("floor", 7), ("pin", 7, 0)])
        self.check(1, [("path", 4, ((5, 0),)), ("pin", 7, 0), ("floor", 5), ("pin", 4, 0)])
        # A pin behind a ring of latches, and a path that would go over such a pin.
        circuit = Circuit([], [("p", 0, 4), ("q", 0, 2)], [(2, 4), (6, 5)], [])
        for node, side in ((3, 0), (3, 1), (4, 1)):
            self.check(0, [("pin", node, side), ("floor", node)], 0, circuit)
        self.check(0, [("path", 3, ((4, 1),)), ("pin", 3, 0)], 0, circuit)

    def test_pins_that_do_not_follow(self):
        self.check(0, [("path", 4, ((6, 0), (7, 1))), ("floor", 7), ("pin", 4, 0)])
        self.check(0, [("path", 4, ((5, 0), (7, 1))), ("floor", 7), ("pin", 4, 0)])
        # A path does not begin with the pin of an input.
        self.check(0, [("path", 4, ((4, 0), (5, 0))), ("floor", 5), ("pin", 4, 0)])

    def test_links_that_do_not_follow(self):
        self.check(1, [("path", 4, ((5, 0),)), ("floor", 4), ("pin", 4, 0)])
        self.check(0, [("path", 4, ((5, 0),)), ("floor", 5)])
        self.check(0, [("path", 4, ((5, 0),))])
        self.check(2, [("path", 4, ((5, 0),)), ("floor", 5), ("pin", 5, 0), ("floor", 4), ("pin", 4, 0)])
        # The pin of an input starts at 0, not at the input.
        circuit = Circuit(["a", "b"], [], [(2, 4), (6, 6)], [])
        self.check(None, [("path", 3, ((4, 0),)), ("floor", 4), ("pin", 3, 1)], 1, circuit)
        self.check(1, [("path", 3, ((4, 0),)), ("pin", 3, 1)], 1, circuit)

    def test_which_fault_is_told(self):
        self.check(1, [VALID[0], ("floor", 9), ("floor", 8), VALID[3], VALID[4]])
        self.check(2, [("floor", 4), ("pin", 4, 0), ("floor", 6), ("pin", 5, 3), ("pin", 4, 0)])
        self.check(0, [("floor", 4), ("pin", 4, 0), ("floor", 6), ("pin", 5, 3)])
        self.check(2, [("floor", 4), ("pin", 4, 0), ("pin", 5, 3), ("floor", 4), ("pin", 4, 0)])

    def test_rings_that_are_found(self):
        chance = random.Random(3)
        told = {}
        for seed in range(150):
            circuit = random_circuit(seed, seed % 3, 1 + seed % 6, 3 + seed % 9, 0)
            depth, _, ring = least_depth(circuit)
            self.check(None, ring, depth - 1, circuit)
            for bound in range(depth):
                _, ring = labels_for(circuit, bound)
                self.check(None, ring, bound, circuit)
                for _ in range(6):
                    wrong = broken(chance, ring)
                    answer = fault_of_ring(circuit, bound, wrong)
                    self.assertEqual(slow_fault(circuit, bound, wrong), answer)
                    told[answer] = told.get(answer, 0) + 1
        self.assertGreater(min(told[None], told[0], told[1], told[2]), 20)


if __name__ == "__main__":
    unittest.main()
