"""Promises [34] to [39]: certificates that circuits are alike, and their judge."""

import unittest

from helpers import plain, random_circuit, random_course, slow_spread

from suregate.frames.frames import (
    frame_clauses, in_frame, link_clauses, same_clauses, start_clauses)
from suregate.graph.builder import Builder, image_of, leaf_images, rebuilt
from suregate.graph.circuit import Circuit
from suregate.graph.joining import Joined
from suregate.judge.alike import fault_of_alike, fault_of_chain
from suregate.judge.certificate import AlikeCertificate
from suregate.runs.plain import run

EMPTY = AlikeCertificate([], [], [], [])


def hashed(circuit):
    """Returns the circuit built again, and a certificate that both are alike."""
    builder = Builder(len(circuit.inputs) + len(circuit.latches))
    images = leaf_images(circuit)
    for left, right in circuit.ands:
        images.append(builder.both(image_of(images, left), image_of(images, right)))
    after = rebuilt(circuit, builder, images)
    return after, same_by_images(circuit, after, images)


def same_by_images(before, after, images):
    """Returns the certificate that says that each node is its image."""
    joined = Joined(before, after)
    net = before.as_net()
    clauses = [
        same_clauses(joined.from_left(2 * node), joined.from_right(images[node]))
        for node in range(net.first_latch, net.node_count)]
    latch_count = len(net.latches)
    return AlikeCertificate(sum(clauses[:latch_count], []), [], sum(clauses[latch_count:], []), [])


def slow_fault(left, right, certificate):
    """The fault of a certificate for circuits with the same interface, as [35] to [38] tell it."""
    joined = Joined(left, right)
    net, end = joined.joint, 2 * joined.joint.node_count

    def first_wrong(clauses, lines, top):
        clauses = list(clauses)
        for index, line in enumerate(lines):
            if min(line, default=0) < 0 or max(line, default=0) >= top:
                return index
            if not slow_spread(clauses, [literal ^ 1 for literal in line])[0]:
                return index
            clauses.append(line)
        return None

    frame = frame_clauses(net, 0)
    start = frame + start_clauses(net)
    same = frame + certificate.facts
    follow = same + certificate.lines + frame_clauses(net, 1) + link_clauses(net, 0)
    checks = [
        ("start_lines", start, certificate.start_lines, end),
        ("start", start + certificate.start_lines, certificate.facts, end),
        ("lines", same, certificate.lines, end)]
    for part, clauses, lines, top in checks:
        index = first_wrong(clauses, lines, top)
        if index is not None:
            return part, index
    for index, (x, y) in enumerate(joined.goals):
        for clause in same_clauses(x, y):
            if first_wrong(same + certificate.lines, [clause], end) is not None:
                return "goals", index
    facts = [in_frame(net, fact, 1) for fact in certificate.facts]
    for part, clauses, lines in (
            ("next_lines", follow, certificate.next_lines), ("next", follow + certificate.next_lines, facts)):
        index = first_wrong(clauses, lines, 2 * end)
        if index is not None:
            return part, index
    return None


class CertificateTest(unittest.TestCase):
    def test_fields_are_new_lists_of_tuples(self):
        lists = [[[1, 2], [3]], [[]], [[4]], [[5, 6], (7,)]]
        certificate = AlikeCertificate(*lists)
        for entries in lists:
            entries[0].append(9)
            entries.clear()
        self.assertEqual(
            ([(1, 2), (3,)], [()], [(4,)], [(5, 6), (7,)]),
            (certificate.facts, certificate.start_lines, certificate.lines, certificate.next_lines))

    def test_equal_certificates(self):
        self.assertTrue(AlikeCertificate([(1,)], [(2,)], [(3,)], []) == AlikeCertificate([[1]], [[2]], [[3]], []))
        self.assertFalse(AlikeCertificate([(1,)], [], [], []) != AlikeCertificate([(1,)], [], [], []))

    def test_all_four_lists_count(self):
        certificate = AlikeCertificate([(1,)], [(1,)], [(1,)], [(1,)])
        for place in range(4):
            for other in ([], [(2,)], [(1,), (1,)], [(1, 1)]):
                lists = [[(1,)], [(1,)], [(1,)], [(1,)]]
                lists[place] = other
                self.assertFalse(certificate == AlikeCertificate(*lists))
                self.assertTrue(certificate != AlikeCertificate(*lists))

    def test_other_values_are_not_equal(self):
        class EqualToAll:
            def __eq__(self, other):
                return True

        for other in (None, [], ([], [], [], []), [[], [], [], []], EqualToAll()):
            self.assertIs(False, EMPTY == other)


class AcceptedTest(unittest.TestCase):
    def test_circuits_without_outputs(self):
        self.assertIsNone(fault_of_alike(Circuit([], [], [], []), Circuit([], [], [], []), EMPTY))

    def test_propagation_alone(self):
        left = Circuit(["a"], [], [], [("y", 2)])
        right = Circuit(["a"], [("q", 0, 0)], [(2, 1)], [("y", 6)])
        self.assertIsNone(fault_of_alike(left, right, EMPTY))
        self.assertIsNone(fault_of_alike(right, left, EMPTY))

    def test_circuits_built_again(self):
        for seed in range(20):
            circuit = random_circuit(seed, 3, seed % 4, 20, 3)
            after, certificate = hashed(circuit)
            before = plain([circuit, after, certificate])
            self.assertIsNone(fault_of_alike(circuit, after, certificate))
            self.assertEqual(before, plain([circuit, after, certificate]))
            course = random_course(seed, 3, 20)
            self.assertEqual(run(circuit, course), run(after, course))

    def test_start_lines(self):
        # Both latches start with the exclusive or of b with itself, which takes a line to see.
        left = Circuit(["b"], [("q", 0, 4)], [(2, 3)], [("y", 4)])
        right = Circuit(["b"], [("q", 0, 8)], [(4, 2), (4, 3)], [("y", 9 ^ 1)])
        joined = Joined(left, right)
        q, r = joined.from_left(4), joined.from_right(4)
        certificate = AlikeCertificate([(q ^ 1,), (r ^ 1,)], [(q ^ 1, 2), (q ^ 1, 3)], [], [])
        self.assertIsNone(fault_of_alike(left, right, certificate))

    def test_goals_need_not_wait_for_facts(self):
        circuit = Circuit(["a"], [("q", 0, 2)], [], [("y", 2)])
        self.assertIsNone(fault_of_alike(circuit, circuit, EMPTY))

    def test_next_lines_over_both_frames(self):
        circuit = Circuit(["a"], [("q", 1, 7)], [(2, 5)], [("y", 4)])
        joined = Joined(circuit, circuit)
        size = 2 * joined.joint.node_count
        facts = same_clauses(joined.from_left(4), joined.from_right(4))
        lines = same_clauses(joined.from_left(6), joined.from_right(6))
        next_lines = [in_frame(joined.joint, clause, 1) for clause in facts]
        next_lines += [(size - 1, size - 2), (2 * size - 1, 2 * size - 2)]
        self.assertIsNone(fault_of_alike(circuit, circuit, AlikeCertificate(facts, [], lines, next_lines)))
        self.assertIsNone(fault_of_alike(circuit, circuit, AlikeCertificate(facts, [], lines, [])))


# Two circuits with a latch that follows the input; joint nodes: 1 a, 2 left q, 3 right q, 4 left and, 5 right and.
FOLLOW = Circuit(["a"], [("q", 0, 6)], [(2, 2)], [("x", 2), ("y", 4)])
FACTS = same_clauses(4, 6)
LINES = same_clauses(8, 10)


class FaultTest(unittest.TestCase):
    def check(self, fault, facts, start_lines, lines, next_lines, left=FOLLOW, right=FOLLOW):
        certificate = AlikeCertificate(facts, start_lines, lines, next_lines)
        before = plain([left, right, certificate])
        self.assertEqual(fault, fault_of_alike(left, right, certificate))
        self.assertEqual(before, plain([left, right, certificate]))
        self.assertEqual(fault, slow_fault(left, right, certificate))

    def test_accepted(self):
        self.check(None, FACTS, [], LINES, [])
        self.check(None, FACTS, [(5,), (7,)], LINES, [(12, 13)])
        self.check(None, FACTS, [], [], [])

    def test_interfaces(self):
        for other in (
                Circuit(["b"], [("q", 0, 6)], [(2, 2)], [("x", 2), ("y", 4)]),
                Circuit(["a"], [("q", 0, 6)], [(2, 2)], [("y", 2), ("x", 4)]),
                Circuit(["a"], [("q", 0, 6)], [(2, 2)], [("x", 2)])):
            bad = AlikeCertificate([(99,)], [(99,)], [], [])
            self.assertEqual(("interfaces", 0), fault_of_alike(FOLLOW, other, bad))
            self.assertEqual(("interfaces", 0), fault_of_alike(other, FOLLOW, EMPTY))

    def test_start_lines(self):
        self.check(("start_lines", 0), FACTS, [(4,)], LINES, [])
        self.check(("start_lines", 1), FACTS, [(5,), (2,), (3,)], LINES, [])
        self.check(("start_lines", 2), FACTS, [(5,), (5, 2), ()], LINES, [])

    def test_start(self):
        self.check(("start", 0), [(4,)], [], [], [])
        self.check(("start", 2), FACTS + [(2, 4)], [], LINES, [])
        self.check(("start", 1), [(5,), (2,), (3,)], [], LINES, [])
        self.check(("start", 0), [()], [], [], [])

    def test_lines(self):
        self.check(("lines", 0), FACTS, [], [(5,)], [])
        self.check(("lines", 1), FACTS, [], LINES[:1] + [(8,)] + LINES[1:], [])
        self.check(("lines", 0), FACTS, [], [()], [])

    def test_start_clauses_do_not_count_for_lines(self):
        self.check(("lines", 2), FACTS, [(5,)], LINES + [(5,)], [])

    def test_start_lines_do_not_count_for_lines(self):
        circuit = Circuit(["a"], [("q", 0, 0)], [], [])
        self.check(("lines", 0), [], [(5,)], [(5,)], [], circuit, circuit)

    def test_goals(self):
        self.check(("goals", 1), [], [], LINES, [])
        self.check(("goals", 1), FACTS[:1], [], LINES, [])
        self.check(("goals", 1), FACTS[1:], [], LINES, [])
        other = Circuit(["a"], [("q", 0, 6)], [(2, 2)], [("x", 3), ("y", 4)])
        self.check(("goals", 0), FACTS, [], LINES, [], FOLLOW, other)

    def test_goals_do_not_follow_from_goals(self):
        # On the right a is split by b, and c by d, so that the last goal would need the first one.
        inputs = ["a", "b", "c", "d"]
        left = Circuit(inputs, [], [(2, 6)], [("x", 2), ("y", 6), ("z", 10)])
        right = Circuit(
            inputs, [], [(2, 4), (2, 5), (11, 13), (6, 8), (6, 9), (17, 19), (15, 21)],
            [("x", 15), ("y", 21), ("z", 22)])
        self.check(("goals", 2), [], [], [], [], left, right)
        self.check(None, [], [], same_clauses(*Joined(left, right).goals[0]), [], left, right)

    def test_next_lines(self):
        self.check(("next_lines", 0), FACTS, [], LINES, [(14,)])
        self.check(("next_lines", 1), FACTS, [], LINES, [(14, 15), (14,), ()])

    def test_next(self):
        # Both latches start alike, and then they go on unlike.
        right = Circuit(["a"], [("q", 0, 7)], [(2, 2)], [("x", 2), ("y", 4)])
        self.check(("next", 0), FACTS, [], [], [], FOLLOW, right)

    def test_next_with_an_index_above_0(self):
        left = Circuit(["a"], [("p", 0, 2), ("q", 0, 4)], [], [])
        right = Circuit(["a"], [], [], [])
        self.check(("next", 1), [(5, 4), (5,)], [], [], [], left, right)
        self.check(("next", 0), [(7,)], [], [], [], left, right)
        self.check(("next", 1), [(7, 3, 2), (7, 5)], [], [], [], left, right)

    def test_lines_and_facts_follow_in_turn(self):
        # The literal 22 is never true, but it takes a split by u, the literal 2, to see this.
        left = Circuit(
            ["u", "v"], [("q", 0, 22), ("s", 0, 2)],
            [(3, 5), (3, 4), (2, 5), (2, 4), (11, 13), (15, 17), (18, 20)], [])
        right = Circuit(["u", "v"], [], [], [])
        split, never = (23, 2), (23,)
        split_next, never_next = in_frame(left.as_net(), split, 1), in_frame(left.as_net(), never, 1)
        self.check(None, [split, never], [], [], [], left, right)
        self.check(("start", 0), [never], [], [], [], left, right)
        self.check(None, [never], [split], [], [split_next], left, right)
        self.check(("next", 0), [never], [split], [], [], left, right)
        self.check(None, [never], [split, never], [], [split_next, never_next], left, right)
        self.check(("start_lines", 0), [never], [never, split], [], [], left, right)
        self.check(("next_lines", 0), [never], [split], [], [never_next, split_next], left, right)
        self.check(None, [], [], [split, never], [], left, right)
        self.check(("lines", 0), [], [], [never, split], [], left, right)
        # The latch q has the value of that literal in the next cycle, and s has the value of u.
        self.check(None, [(7, 8), (7,)], [], [], [], left, right)
        self.check(("next", 0), [(7,)], [], [], [], left, right)
        self.check(("next", 0), [(7,), (7, 8)], [], [], [], left, right)

    def test_lines_count_in_the_next_cycle(self):
        # The next value of q is a and b or a and not b, and not a: 0, but only by a split.
        left = Circuit(["a", "b"], [("q", 0, 14)], [(2, 4), (2, 5), (9, 11), (13, 3)], [])
        right = Circuit(["a", "b"], [], [], [])
        self.check(None, [(7,)], [], [(15, 4), (15,)], [], left, right)
        self.check(None, [(7,)], [], [], [(15, 4), (15,)], left, right)

    def test_frame_1_counts_for_next_lines_only(self):
        size = 12
        circuit = Circuit(["a"], [("q", 0, 2)], [(4, 2)], [])
        other = Circuit(["a"], [("q", 0, 2)], [(4, 2)], [])
        self.check(None, [], [], [], [(size + 9, size + 4), (size + 5, 2)], circuit, other)
        self.check(("lines", 0), [], [], [(size + 9, size + 4)], [], circuit, other)
        self.check(("start_lines", 0), [], [(size + 9, size + 4)], [], [], circuit, other)

    def test_first_fault_of_all(self):
        bad = [(2,)]
        self.check(("start_lines", 0), bad, bad, bad, bad)
        self.check(("start", 0), bad, [], bad, bad)
        self.check(("lines", 0), FACTS, [], bad, bad)
        self.check(("goals", 1), [], [], [], bad)
        self.check(("next_lines", 0), FACTS, [], LINES, bad)

    def test_literals_out_of_range(self):
        # N is 6: literals from 0 to 11, and from 0 to 23 for next lines. A line with complements always follows.
        for literal in (0, 1, 11):
            line = (literal, literal ^ 1)
            self.check(None, FACTS + [line], [line], LINES + [line], [line])
        for literal in (-2, -1, 12, 13, 23, 24, 1000):
            line = (literal, literal ^ 1)
            self.check(("start_lines", 1), FACTS, [(5,), line], LINES, [])
            self.check(("start", 2), FACTS + [line], [], LINES, [])
            self.check(("lines", 2), FACTS, [], LINES + [line], [])
            for mixed in ((5, literal), (literal, 5)):
                self.check(("start_lines", 0), FACTS, [mixed], LINES, [])
        for literal in (12, 23):
            self.check(None, FACTS, [], LINES, [(literal, literal ^ 1)])
        for literal in (-2, -1, 24, 25, 1000):
            self.check(("next_lines", 1), FACTS, [], LINES, [(22, 23), (literal, literal ^ 1)])

    def test_answers_are_tuples(self):
        self.assertIs(tuple, fault_of_alike(FOLLOW, FOLLOW, EMPTY).__class__)


class RandomFaultTest(unittest.TestCase):
    def test_changed_certificates(self):
        found = set()
        for seed in range(25):
            circuit = random_circuit(seed, 2, 2, 8, 2)
            after, certificate = hashed(circuit)
            for place in range(len(certificate.facts)):
                facts = certificate.facts[:place] + certificate.facts[place + 1:]
                found.add(self.check(circuit, after, AlikeCertificate(facts, [], certificate.lines, [])))
            for place in range(0, len(certificate.lines), 3):
                lines = certificate.lines[:place] + certificate.lines[place + 1:]
                found.add(self.check(circuit, after, AlikeCertificate(certificate.facts, [], lines, [])))
                lines = [clause[:1] if index == place else clause for index, clause in enumerate(certificate.lines)]
                found.add(self.check(circuit, after, AlikeCertificate(certificate.facts, [], lines, [])))
            next_lines = [(2 * clause[0],) for clause in certificate.lines]
            found.add(self.check(
                circuit, after, AlikeCertificate(certificate.facts, certificate.lines, certificate.lines, next_lines)))
            found.add(self.check(
                circuit, after, AlikeCertificate(certificate.facts, next_lines, certificate.lines, [])))
            found.add(self.check(circuit, random_circuit(seed + 100, 2, 2, 8, 2), certificate))
        self.assertEqual({None, "start_lines", "start", "lines", "goals", "next_lines", "next"}, found)

    def check(self, left, right, certificate):
        expected = slow_fault(left, right, certificate)
        self.assertEqual(expected, fault_of_alike(left, right, certificate))
        return None if expected is None else expected[0]


class ChainTest(unittest.TestCase):
    def test_one_circuit(self):
        self.assertIsNone(fault_of_chain([FOLLOW], []))

    def test_chain_without_a_fault(self):
        circuits, certificates = [random_circuit(3)], []
        for _ in range(3):
            after, certificate = hashed(circuits[-1])
            circuits.append(after)
            certificates.append(certificate)
        before = plain([circuits, certificates])
        self.assertIsNone(fault_of_chain(circuits, certificates))
        self.assertEqual(before, plain([circuits, certificates]))

    def test_faults(self):
        good = AlikeCertificate(FACTS, [], LINES, [])
        bad_line = AlikeCertificate(FACTS, [], LINES + [(2,)], [])
        bad_fact = AlikeCertificate([(4,)], [], [], [])
        self.assertEqual((0, "lines", 2), fault_of_chain([FOLLOW] * 3, [bad_line, bad_fact]))
        self.assertEqual((2, "lines", 2), fault_of_chain([FOLLOW] * 4, [good, good, bad_line]))
        self.assertEqual((1, "start", 0), fault_of_chain([FOLLOW] * 4, [good, bad_fact, bad_line]))
        other = Circuit(["b"], [], [], [])
        self.assertEqual((1, "interfaces", 0), fault_of_chain([FOLLOW, FOLLOW, other], [good, good]))

    def test_each_certificate_is_for_the_circuit_before(self):
        ring = [
            Circuit(["a"], [], [], [("y", 2)]), Circuit(["a"], [], [(2, 2)], [("y", 4)]),
            Circuit(["a"], [], [], [("y", 3)])]
        self.assertIsNone(fault_of_chain(ring[:2], [EMPTY]))
        self.assertEqual((1, "goals", 0), fault_of_chain(ring, [EMPTY, EMPTY]))


if __name__ == "__main__":
    unittest.main()
