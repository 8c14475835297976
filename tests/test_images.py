"""Promise [40]: certificates by images."""

import unittest

from helpers import plain

from suregate.frames.frames import same_clauses
from suregate.graph.circuit import Circuit
from suregate.graph.joining import Joined
from suregate.judge.alike import fault_of_alike
from suregate.judge.images import image_certificate

# Nodes: 1 a, 2 p, 3 q, 4 r, 5 to 7 the ands. Afterwards: 1 a, 2 p, 3 r, 4 the and.
BEFORE = Circuit(["a"], [("p", 0, 10), ("q", 1, 2), ("r", 0, 9)], [(2, 4), (10, 7), (11, 12)], [("y", 10)])
AFTER = Circuit(["a"], [("p", 0, 8), ("r", 0, 7)], [(2, 4)], [("y", 8)])


def joint(images, node):
    joined = Joined(BEFORE, AFTER)
    return same_clauses(joined.from_left(2 * node), joined.from_right(images[node]))


class ImageCertificateTest(unittest.TestCase):
    def check(self, images, extra, facts, lines):
        before = plain([BEFORE, AFTER, images, extra])
        certificate = image_certificate(BEFORE, AFTER, images, extra)
        self.assertEqual(before, plain([BEFORE, AFTER, images, extra]))
        self.assertEqual(facts, certificate.facts)
        self.assertEqual(lines, certificate.lines)
        self.assertEqual([], certificate.start_lines)
        self.assertEqual([], certificate.next_lines)
        return certificate

    def test_by_hand(self):
        # The joint nodes: 1 a, 2 to 4 the left latches, 5 and 6 the right ones, 7 to 9 the left ands, 10 the right and.
        self.check(
            [0, 2, 4, None, 6, 8, None, 9], {},
            [(5, 10), (4, 11), (9, 12), (8, 13)],
            [(15, 20), (14, 21), (19, 21), (18, 20)])

    def test_all_images(self):
        images = [0, 2, 4, 5, 7, 8, 3, 0]
        self.check(
            images, {}, joint(images, 2) + joint(images, 3) + joint(images, 4),
            joint(images, 5) + joint(images, 6) + joint(images, 7))

    def test_no_images(self):
        self.check([0, 2] + [None] * 6, {}, [], [])

    def test_constant_images(self):
        images = [0, 2, 0, 1, None, 1, 0, None]
        self.check(images, {}, [(5, 0), (4, 1), (7, 1), (6, 0)], [(15, 1), (14, 0), (17, 0), (16, 1)])

    def test_clauses_stand_ahead_of_those_of_their_and(self):
        images = [0, 2, 4, None, 6, 8, 9, 2]
        extra = {7: [(3, 5)], 5: [(1, 2), ()]}
        facts = joint(images, 2) + joint(images, 4)
        self.check(
            images, extra, facts,
            [(1, 2), ()] + joint(images, 5) + joint(images, 6) + [(3, 5)] + joint(images, 7))
        self.check(images, {6: []}, facts, joint(images, 5) + joint(images, 6) + joint(images, 7))

    def test_clauses_of_ands_without_an_image_are_left_out(self):
        images = [0, 2, 4, None, 6, 8, None, 9]
        extra = {6: [(3, 5)]}
        self.check(images, extra, joint(images, 2) + joint(images, 4), joint(images, 5) + joint(images, 7))

    def test_it_is_accepted_if_the_images_are_right(self):
        certificate = image_certificate(BEFORE, AFTER, [0, 2, 4, None, 6, 8, None, None], {})
        self.assertIsNone(fault_of_alike(BEFORE, AFTER, certificate))
        wrong = image_certificate(BEFORE, AFTER, [0, 2, 4, None, 6, 9, None, None], {})
        self.assertEqual(("lines", 0), fault_of_alike(BEFORE, AFTER, wrong))

    def test_lists_of_clauses_are_not_kept(self):
        extra = {5: [(1, 2)]}
        certificate = image_certificate(BEFORE, AFTER, [0, 2, 4, None, 6, 8, None, None], extra)
        extra[5].append((9, 9))
        self.assertEqual((1, 2), certificate.lines[0])
        self.assertEqual(3, len(certificate.lines))


if __name__ == "__main__":
    unittest.main()
