"""Promises [18], [19], [22] and [23]: circuits as text."""

from helpers import SuregateTest, plain, random_circuit

from suregate.errors import InvalidCircuit, InvalidText
from suregate.graph.circuit import Circuit
from suregate.text.circuits import read_circuit, write_circuit

TEXT = "circuit\ninput a\ninput b_2\nlatch q 1 9\nlatch r 0 0\nand 2 5\nand 8 11\noutput y 7\noutput a 12\n"


class TextTest(SuregateTest):
    def invalid_text(self, line, text):
        self.assert_error(InvalidText, {"line": line}, read_circuit, text)

    def invalid_circuit(self, part, index, text):
        self.assert_error(InvalidCircuit, {"part": part, "index": index}, read_circuit, text)


class WriteTest(SuregateTest):
    def test_example(self):
        circuit = Circuit(["a"], [("q", 0, 6)], [(2, 5)], [("y", 7)])
        self.assertEqual("circuit\ninput a\nlatch q 0 6\nand 2 5\noutput y 7\n", write_circuit(circuit))

    def test_all_lines_in_order(self):
        circuit = Circuit(["a", "b_2"], [("q", 1, 9), ("r", 0, 0)], [(2, 5), (8, 11)], [("y", 7), ("a", 12)])
        self.assertEqual(TEXT, write_circuit(circuit))
        self.assertEqual(circuit, read_circuit(TEXT))

    def test_empty_circuit(self):
        self.assertEqual("circuit\n", write_circuit(Circuit([], [], [], [])))
        self.assertEqual(Circuit([], [], [], []), read_circuit("circuit\n"))

    def test_circuits_stay_as_they_are(self):
        circuit = random_circuit(1)
        before = plain(circuit)
        write_circuit(circuit)
        self.assertEqual(before, plain(circuit))


class RoundTest(SuregateTest):
    def test_written_texts_are_read_back_equal(self):
        for seed in range(20):
            circuit = random_circuit(seed, seed % 4, seed % 3, seed, seed % 5)
            text = write_circuit(circuit)
            self.assertEqual(circuit, read_circuit(text))
            self.assertEqual(text, write_circuit(read_circuit(text)))

    def test_the_greatest_circuit(self):
        circuit = random_circuit(1, 16, 40, 2000, 32)
        self.assertEqual(circuit, read_circuit(write_circuit(circuit)))

    def test_single_parts(self):
        for text in (
                "circuit\ninput a\n", "circuit\nlatch q 1 3\n", "circuit\nand 0 1\n", "circuit\noutput y 0\n",
                "circuit\ninput a\noutput a 2\n", "circuit\nlatch abcdefghij_1 0 0\nand 2 2\n"):
            self.assertEqual(text, write_circuit(read_circuit(text)))


class LinesTest(TextTest):
    def test_empty_text(self):
        self.invalid_text(1, "")

    def test_text_without_its_last_newline(self):
        self.invalid_text(1, "circuit")
        self.invalid_text(2, "circuit\ninput a")
        self.invalid_text(9, TEXT[:-1])
        self.invalid_text(10, TEXT + " ")
        self.invalid_text(10, TEXT + "output z 0")

    def test_a_missing_newline_is_told_before_all_other_lines(self):
        self.invalid_text(3, "circuit\nnonsense\ninput a")
        self.invalid_text(2, "nonsense\n ")
        self.invalid_text(4, "circuit\ninput A\ninput A\nx")

    def test_the_first_wrong_line_is_told(self):
        self.invalid_text(2, "circuit\nnonsense\nnonsense\n")
        self.invalid_text(1, "Circuit\nnonsense\n")
        self.invalid_text(3, "circuit\ninput a\nand 1\nlatch\n")

    def test_title(self):
        for title in (
                "", " ", "circuit ", " circuit", "circuit circuit", "circuits", "flow", "certificate", "\tcircuit"):
            self.invalid_text(1, title + "\n" + TEXT[8:])

    def test_the_title_stands_once(self):
        self.invalid_text(2, "circuit\ncircuit\n")
        self.invalid_text(10, TEXT + "circuit\n")

    def test_empty_lines(self):
        self.invalid_text(1, "\n")
        self.invalid_text(2, "circuit\n\ninput a\n")
        self.invalid_text(10, TEXT + "\n")

    def test_spaces(self):
        self.invalid_text(2, "circuit\n input a\n")
        self.invalid_text(2, "circuit\ninput a \n")
        self.invalid_text(2, "circuit\ninput  a\n")
        self.invalid_text(2, "circuit\nand 0  1\n")
        self.invalid_text(2, "circuit\nand  0 1\n")
        self.invalid_text(2, "circuit\nand 0 1 \n")
        self.invalid_text(2, "circuit\n and 0 1\n")
        self.invalid_text(2, "circuit\nand\t0 1\n")

    def test_other_line_ends_are_no_newlines(self):
        self.invalid_text(1, "circuit\r\ninput a\r\n")
        self.invalid_text(2, "circuit\nand 0 1\r\n")
        self.invalid_text(2, "circuit\nand 0 1\x0band 0 1\n")
        self.invalid_circuit("inputs", 0, "circuit\ninput a\x0cb\n")

    def test_numbers_of_words(self):
        for line in (
                "input", "input a b", "latch", "latch q", "latch q 0", "latch q 0 0 0", "and", "and 0", "and 0 0 0",
                "output", "output y", "output y 0 0", "fact", "line 0", "inputs a", "Input a", "lat q 0 0"):
            self.invalid_text(2, "circuit\n" + line + "\n")

    def test_numbers(self):
        for word in (
                "", "00", "01", "007", "+1", "-1", "-0", "1.0", "1e3", "x", "1x", "0x1", "1_0", "1000000", "0000001",
                "\u0663", "\u00b2", "\uff11", " 1", "\t1"):
            self.invalid_text(2, f"circuit\nand {word} 0\n")
            self.invalid_text(2, f"circuit\nand 0 {word}\n")
            self.invalid_text(2, f"circuit\nlatch q {word} 0\n")
            self.invalid_text(2, f"circuit\nlatch q 0 {word}\n")
            self.invalid_text(2, f"circuit\noutput y {word}\n")

    def test_numbers_of_six_digits(self):
        self.invalid_circuit("ands", 0, "circuit\nand 999999 0\n")
        self.invalid_circuit("ands", 0, "circuit\nand 0 100000\n")
        self.invalid_circuit("latches", 0, "circuit\nlatch q 999999 0\n")
        self.invalid_circuit("latches", 0, "circuit\nlatch q 0 123456\n")
        self.invalid_circuit("outputs", 0, "circuit\noutput y 999999\n")

    def test_start_is_any_number(self):
        self.invalid_circuit("latches", 0, "circuit\nlatch q 2 0\n")
        self.invalid_circuit("latches", 1, "circuit\nlatch q 1 0\nlatch r 10 0\n")

    def test_names_are_any_words(self):
        for name in ("", "A", "1", "-", "abcdefghijklm", "circuit.", "\t", "a\tb", "\u00e9"):
            self.invalid_circuit("inputs", 1, f"circuit\ninput a\ninput {name}\n")
            self.invalid_circuit("latches", 0, f"circuit\nlatch {name} 0 0\n")
            self.invalid_circuit("outputs", 0, f"circuit\noutput {name} 0\n")

    def test_words_of_lines_are_names_too(self):
        text = "circuit\ninput input\ninput circuit\nlatch latch 0 0\noutput output 1\noutput and 0\n"
        self.assertEqual(text, write_circuit(read_circuit(text)))

    def test_lines_in_the_wrong_place(self):
        lines = ["input a", "latch q 0 0", "and 0 0", "output y 0"]
        for later in range(4):
            for earlier in range(later):
                self.invalid_text(3, f"circuit\n{lines[later]}\n{lines[earlier]}\n")
        self.invalid_text(5, "circuit\ninput a\nand 0 0\noutput y 0\nand 0 0\n")

    def test_wrong_lines_are_told_before_wrong_circuits(self):
        self.invalid_text(4, "circuit\ninput A\ninput A\nnonsense\n")
        self.invalid_text(3, "circuit\nand 99 99\nand 99\n")
        self.invalid_circuit("inputs", 0, "circuit\ninput A\nlatch q 2 2\nand 99 99\n")

    def test_surplus_entries(self):
        self.invalid_circuit("inputs", 16, "circuit\n" + "".join(f"input a{k}\n" for k in range(17)))
        self.invalid_circuit("latches", 40, "circuit\n" + "".join(f"latch a{k} 0 0\n" for k in range(41)))
        self.invalid_circuit("ands", 2000, "circuit\n" + "and 0 0\n" * 2001)
        self.invalid_circuit("outputs", 32, "circuit\n" + "".join(f"output a{k} 0\n" for k in range(33)))

    def test_names_that_are_there_already(self):
        self.invalid_circuit("latches", 0, "circuit\ninput a\nlatch a 0 0\n")
        self.invalid_circuit("outputs", 1, "circuit\noutput a 0\noutput a 0\n")
