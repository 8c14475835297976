"""Promises [106] and [108]: words of expressions, and runs of designs; and words as bits."""

import random
import unittest

from designs import Writer, slow_run
from helpers import SuregateTest, plain

from suregate.errors import InvalidCourse
from suregate.source.design import Design, read_design
from suregate.source.reading import bits_of_words, run_design, words_of_bits


def random_words(seed, design, length):
    """Returns a course for a design; the same for the same numbers."""
    chance = random.Random(seed)
    return [
        [chance.choice((0, 2 ** width - 1, chance.randrange(2 ** width))) for _, width in design.inputs]
        for _ in range(length)]


class RunTest(SuregateTest):
    def check_words(self, text, expected, *words, widths=(4, 4)):
        """Checks the word of an expression over the inputs a and b."""
        design = read_design(f"input a {widths[0]}\ninput b {widths[1]}\noutput y = {text}\n")
        self.assertEqual([[expected]], run_design(design, [list(words)]), (text, words))

    def test_example(self):
        text = "input go 1\nregister count 2 0\nnext count = go ? count + 2'1 : count\n"
        design = read_design(text + "output high = count[1]\noutput zero = count == 2'0\n")
        self.assertEqual([[0, 1], [0, 0], [1, 0], [1, 0]], run_design(design, [[1], [1], [0], [1]]))

    def test_binary_digits(self):
        self.check_words("a | b", 0b1110, 0b1100, 0b1010)
        self.check_words("a ^ b", 0b0110, 0b1100, 0b1010)
        self.check_words("a & b", 0b1000, 0b1100, 0b1010)
        self.check_words("~a", 0b0011, 0b1100, 0)
        self.check_words("~a", 15, 0, 0)
        self.check_words("~a", 0, 15, 0)
        self.check_words("~b", 1, 0, 0, widths=(1, 1))

    def test_sums_and_products(self):
        self.check_words("a + b", 15, 7, 8)
        self.check_words("a + b", 0, 15, 1)
        self.check_words("a + b", 14, 15, 15)
        self.check_words("a - b", 15, 0, 1)
        self.check_words("a - b", 0, 15, 15)
        self.check_words("a - b", 1, 0, 15)
        self.check_words("a * b", 1, 15, 15)
        self.check_words("a * b", 0, 8, 2)
        self.check_words("a * b", 12, 4, 3)
        self.check_words("-a", 0, 0, 0)
        self.check_words("-a", 1, 15, 0)
        self.check_words("-a", 8, 8, 0)
        for one in (0, 1):
            for other in (0, 1):
                self.check_words("a + b", one ^ other, one, other, widths=(1, 1))
                self.check_words("a - b", one ^ other, one, other, widths=(1, 1))
                self.check_words("a * b", one & other, one, other, widths=(1, 1))
                self.check_words("-a", one, one, other, widths=(1, 1))

    def test_great_words(self):
        for text, expected in (
                ("16'65535 + 16'1", 0), ("16'65535 * 16'65535", 1), ("16'0 - 16'1", 65535), ("-16'1", 65535),
                ("~16'0", 65535), ("16'65535 < 16'65535", 0), ("16'65535 <= 16'65535", 1), ("16'65534 < 16'65535", 1),
                ("16'256 * 16'256", 0), ("-16'32768", 32768), ("{8'255, 8'1}", 65281), ("16'43981[11:4]", 188)):
            self.assertEqual([[expected]], run_design(read_design(f"output y = {text}"), [[]]), text)

    def test_comparisons(self):
        for one, other in ((0, 0), (0, 15), (15, 0), (15, 15), (7, 8), (8, 7), (7, 7)):
            self.check_words("a == b", int(one == other), one, other)
            self.check_words("a != b", int(one != other), one, other)
            self.check_words("a < b", int(one < other), one, other)
            self.check_words("a <= b", int(one <= other), one, other)

    def test_comparisons_are_one_bit_wide(self):
        # What the complement of each comparison of 5 and 3 is.
        for sign, expected in (("==", 1), ("!=", 0), ("<", 1), ("<=", 1)):
            self.check_words(f"~(a {sign} b)", expected, 5, 3)
            self.check_words(f"-(a {sign} b)", 1 - expected, 5, 3)
            self.check_words(f"{{a {sign} b, a {sign} b, 1'1}}", 7 - 6 * expected, 5, 3)

    def test_picks_braces_and_choices(self):
        self.check_words("a[3:1]", 0b110, 0b1101, 0)
        self.check_words("a[0]", 1, 0b1101, 0)
        self.check_words("a[1]", 0, 0b1101, 0)
        self.check_words("a[3:0]", 13, 13, 0)
        self.check_words("{a, b}", 0b11010010, 0b1101, 0b0010)
        self.check_words("{a[0], b[1:0], 2'2}", 0b11010, 0b1101, 0b0010)
        self.check_words("{a}", 13, 13, 0)
        self.check_words("a[0] ? a : b", 13, 13, 2)
        self.check_words("a[1] ? a : b", 2, 13, 2)

    def test_lets_in_order(self):
        design = read_design("input a 4\nlet x = a + 4'1\nlet y = x * x\nlet z = y - a\noutput z = z\noutput x = x\n")
        self.assertEqual([[(a + 1) ** 2 % 16 - a & 15, (a + 1) % 16] for a in range(16)],
                         run_design(design, [[a] for a in range(16)]))

    def test_registers_as_in_the_cycle_before(self):
        design = read_design(
            "input a 4\nregister p 4 3\nregister q 4 5\nregister r 4 0\nnext q = p\nnext p = q\nnext r = r + a\n"
            "output x = p\noutput y = q\noutput z = r\n")
        self.assertEqual(
            [[3, 5, 0], [5, 3, 9], [3, 5, 2], [5, 3, 2]], run_design(design, [[9], [9], [0], [1]]))

    def test_without_inputs_and_outputs(self):
        self.assertEqual([[], []], run_design(read_design("input a 4"), [[1], [2]]))
        self.assertEqual([[7], [8]], run_design(read_design("register q 4 7\nnext q = q + 4'1\noutput y = q"), [[], []]))
        self.assertEqual([[]], run_design(Design([], [], [], [], []), [[]]))

    def test_by_definition(self):
        for seed in range(120):
            text, _ = Writer(seed).design(4)
            try:
                design = read_design(text)
            except ValueError:
                continue
            course = random_words(seed, design, 10)
            before = plain([design, course])
            self.assertEqual(slow_run(design, course), run_design(design, course))
            self.assertEqual(before, plain([design, course]))

    def test_courses(self):
        design = read_design("input a 1\ninput b 3\ninput c 12\noutput y = b")
        self.assertEqual([], run_design(design, []))
        self.assertEqual([[7]] * 1000, run_design(design, [[1, 7, 4095]] * 1000))
        self.assert_error(InvalidCourse, {"index": 1000}, run_design, design, [[1, 7, 4095]] * 1001)
        self.assert_error(InvalidCourse, {"index": 1000}, run_design, design, [[1, 7, 4095]] * 1000 + [[]])
        for row in ([], [0, 0], [0, 0, 0, 0], [2, 0, 0], [0, 8, 0], [0, 0, 4096], [-1, 0, 0], [0, -1, 0], [0, 0, 10 ** 9]):
            before = plain([design, row])
            self.assert_error(InvalidCourse, {"index": 1}, run_design, design, [[0, 0, 0], row, [9, 9, 9]])
            self.assertEqual(before, plain([design, row]))
        wide = read_design("input a 16\noutput y = a")
        self.assertEqual([[65535]], run_design(wide, [[65535]]))
        self.assert_error(InvalidCourse, {"index": 0}, run_design, wide, [[65536]])


class BitsTest(unittest.TestCase):
    def test_bits_of_words(self):
        self.assertEqual([0, 1, 1, 1, 0, 0, 0], bits_of_words([("a", 3), ("b", 4, 9)], [6, 1]))
        self.assertEqual([], bits_of_words([], []))
        self.assertEqual([1] * 16, bits_of_words([("a", 16)], [65535]))
        self.assertEqual([1, 0], bits_of_words([("a", 1, "x"), ("b", 1, "y")], [1, 0]))

    def test_words_of_bits(self):
        self.assertEqual([6, 1], words_of_bits([("a", 3), ("b", 4, 9)], [0, 1, 1, 1, 0, 0, 0]))
        self.assertEqual([], words_of_bits([], []))
        self.assertEqual([65535], words_of_bits([("a", 16)], [1] * 16))

    def test_both_ways(self):
        chance = random.Random(1)
        for _ in range(50):
            ports = [("x", chance.randrange(1, 17)) for _ in range(chance.randrange(6))]
            words = [chance.randrange(2 ** width) for _, width in ports]
            bits = bits_of_words(ports, words)
            before = plain([ports, words, bits])
            self.assertEqual(sum(width for _, width in ports), len(bits))
            self.assertEqual(words, words_of_bits(ports, bits))
            self.assertEqual(before, plain([ports, words, bits]))


if __name__ == "__main__":
    unittest.main()
