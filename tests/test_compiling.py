"""Promise [109]: the circuits of designs."""

import itertools
import unittest

from designs import Writer
from helpers import SuregateTest, plain
from test_reading import random_words

from suregate.errors import InvalidCircuit
from suregate.graph.circuit import Circuit
from suregate.runs.plain import run
from suregate.source.compiling import compile_design
from suregate.source.design import Design, read_design
from suregate.source.reading import bits_of_words, run_design

SIGNS = ("|", "^", "&", "==", "!=", "<", "<=", "+", "-", "*")


def names_of(ports):
    return [f"{port[0]}_{place}" for port in ports for place in range(port[1])]


class CompilingTest(SuregateTest):
    def check(self, design, courses):
        """Checks the circuit of a design; returns it."""
        before = plain(design)
        circuit = compile_design(design)
        self.assertEqual(before, plain(design))
        self.assertIs(Circuit, circuit.__class__)
        self.assertEqual(names_of(design.inputs), circuit.inputs)
        self.assertEqual(names_of(design.registers), [name for name, _, _ in circuit.latches])
        starts = bits_of_words(design.registers, [start for _, _, start in design.registers])
        self.assertEqual(starts, [start for _, start, _ in circuit.latches])
        self.assertEqual(names_of(design.outputs), [name for name, _ in circuit.outputs])
        for course in courses:
            bits = [bits_of_words(design.inputs, row) for row in course]
            expected = [bits_of_words(design.outputs, row) for row in run_design(design, course)]
            self.assertEqual(expected, run(circuit, bits))
        return circuit

    def test_example(self):
        text = "input go 1\nregister count 2 2\nnext count = go ? count + 2'1 : count\noutput high = count[1]\n"
        circuit = self.check(read_design(text), [[[1], [1], [0], [1]]])
        self.assertEqual(["go_0"], circuit.inputs)
        self.assertEqual([("count_0", 0), ("count_1", 1)], [latch[:2] for latch in circuit.latches])
        self.assertEqual([("high_0", 6)], circuit.outputs)

    def test_names_and_order_of_bits(self):
        design = read_design(
            "input a 3\nregister abcdefg8 16 43981\ninput b 2\nnext abcdefg8 = abcdefg8\noutput a = {b, a}\noutput z = abcdefg8\n")
        circuit = self.check(design, [[[5, 2], [2, 1]]])
        self.assertEqual(["a_0", "a_1", "a_2", "b_0", "b_1"], circuit.inputs)
        self.assertEqual("abcdefg8_15", circuit.latches[15][0])
        self.assertEqual([("a_0", 2), ("a_1", 4), ("a_2", 6), ("a_3", 8), ("a_4", 10)], circuit.outputs[:5])
        self.assertEqual([(f"z_{k}", 12 + 2 * k) for k in range(16)], circuit.outputs[5:])

    def test_picks_braces_names_and_constants_take_no_ands(self):
        design = read_design(
            "input a 5\nlet x = {a[1:0], 3'5, a}[7:2]\nregister q 16 1\nnext q = {x, 4'3, x}\noutput y = q[15:3]\noutput z = x[0]\n"
            "output u = ~a\n")
        circuit = self.check(design, [[[3], [9], [31]]])
        self.assertEqual([], circuit.ands)

    def test_numbers_of_ands(self):
        for width in (1, 2, 3, 4, 8, 16):
            for sign in SIGNS:
                design = read_design(
                    f"register a {width} 0\nregister b {width} 1\nnext a = a\nnext b = b\noutput y = a {sign} b\n")
                most = 10 * width * width if sign == "*" else 10 * width
                self.assertLessEqual(len(compile_design(design).ands), most, (sign, width))
            text = f"register a {width} 0\nregister b {width} 0\nregister t 1 0\nnext a = a\nnext b = b\nnext t = t\noutput y = "
            for expression in ("-a", "~a", "t ? a : b"):
                design = read_design(text + expression)
                self.assertLessEqual(len(compile_design(design).ands), 10 * width, (expression, width))

    def test_each_operator_with_all_words(self):
        for width in (1, 2, 3):
            for sign in SIGNS:
                design = read_design(f"input a {width}\ninput b {width}\noutput y = a {sign} b\noutput z = b {sign} a\n")
                rows = [list(row) for row in itertools.product(range(2 ** width), repeat=2)]
                self.check(design, [rows])
            for expression in ("-a", "~a", "-(a)[0]", "a[0] ? a : -a"):
                design = read_design(f"input a {width}\noutput y = {expression}\n")
                self.check(design, [[[word] for word in range(2 ** width)]])

    def test_operators_with_constants(self):
        for sign in SIGNS:
            for word in (0, 1, 5, 7):
                design = read_design(f"input a 3\noutput y = a {sign} 3'{word}\noutput z = 3'{word} {sign} a\n")
                self.check(design, [[[told] for told in range(8)]])

    def test_great_words(self):
        edges = [0, 1, 2, 255, 256, 32767, 32768, 65534, 65535]
        for sign in SIGNS:
            design = read_design(
                f"input a 16\nregister b 16 65535\nnext b = a\noutput y = a {sign} b\noutput z = -b\n")
            self.check(design, [edges_course(edges)])

    def test_designs_by_chance(self):
        count = 0
        for seed in range(150):
            text, _ = Writer(seed).design(3)
            try:
                design = read_design(text)
                circuit = compile_design(design)
            except ValueError:
                continue
            self.check(design, [random_words(seed, design, 12)])
            count += bool(circuit.ands)
        self.assertGreater(count, 60)

    def test_lets_are_built_once(self):
        design = read_design("input a 4\ninput b 4\nlet x = a * b\noutput y = x\noutput z = x + x\noutput w = a * b\n")
        one = read_design("input a 4\ninput b 4\noutput y = a * b\n")
        self.assertLessEqual(len(compile_design(design).ands), len(compile_design(one).ands) + 40)

    def test_nothing(self):
        self.assertEqual(Circuit([], [], [], []), self.check(Design([], [], [], [], []), [[[], []]]))
        self.assertEqual(Circuit(["a_0"], [], [], []), self.check(read_design("input a 1"), [[[1]]]))

    def test_too_many_ands(self):
        # Products of 16 bits; by the numbers of [109] those of 4 bits can never be too many.
        text = "input a 16\nregister b 16 1\nregister c 8 1\nnext c = c\nnext b = b + a\n"
        names = ["a", "b"]
        for number in range(30):
            text += f"let x{number} = ({names[-1]} + 16'{number + 3}) * {names[-2]}\n"
            names.append(f"x{number}")
        text += f"output y = {names[-1]}\n"
        self.assert_error(InvalidCircuit, {"part": "ands", "index": 2000}, compile_design, read_design(text))
        small = "input a 4\nregister b 4 1\nnext b = " + " ^ ".join([f"(a * (b + 4'{k}))" for k in range(8)]) + "\noutput y = b\n"
        self.check(read_design(small), [[[3], [9], [15]]])

    def test_too_many_ands_of_many_products(self):
        # A design whose circuit would have hundreds of thousands of ands is refused as well.
        terms = "+".join(["a*b*a*b*a*b"] * 6)
        text = "input a 16\nregister b 16 1\nnext b = a\n"
        text += "".join(f"let x{k} = ({terms})*(b+16'{k})*(a-16'{k})\n" for k in range(100))
        self.assert_error(InvalidCircuit, {"part": "ands", "index": 2000}, compile_design, read_design(text))


def edges_course(edges):
    """Returns a course in which each two of the words follow one another."""
    return [[word] for pair in itertools.product(edges, repeat=2) for word in pair]


if __name__ == "__main__":
    unittest.main()
