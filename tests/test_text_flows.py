"""Promises [21], [22], [23] and [39]: chains as text, and the fault of a text."""

from helpers import SuregateTest, plain, random_circuit, random_clauses

from suregate.errors import InvalidCircuit, InvalidText
from suregate.frames.frames import same_clauses
from suregate.graph.circuit import Circuit
from suregate.judge.certificate import AlikeCertificate
from suregate.text.certificates import write_certificate
from suregate.text.circuits import write_circuit
from suregate.text.flows import fault_of_text, read_chain, write_chain

FIRST = "circuit\ninput a\noutput y 2\n"
SECOND = "circuit\ninput a\nand 2 1\noutput y 4\n"
EMPTY = "certificate\n"


class ChainTextTest(SuregateTest):
    def invalid_text(self, line, text):
        self.assert_error(InvalidText, {"line": line}, read_chain, text)
        self.assertEqual((0, "text", line), fault_of_text(text))

    def invalid_circuit(self, part, index, text):
        self.assert_error(InvalidCircuit, {"part": part, "index": index}, read_chain, text)
        self.assertEqual((0, part, index), fault_of_text(text))

    def test_one_circuit(self):
        circuit = Circuit(["a"], [], [], [("y", 2)])
        self.assertEqual("flow\n" + FIRST, write_chain([circuit], []))
        self.assertEqual(([circuit], []), read_chain("flow\n" + FIRST))

    def test_several_circuits(self):
        circuits = [Circuit(["a"], [], [], [("y", 2)]), Circuit([], [], [], []), Circuit(["a"], [], [], [("y", 3)])]
        certificates = [AlikeCertificate([(1,)], [], [()], []), AlikeCertificate([], [(2, 3)], [], [(4,)])]
        text = (
            "flow\n" + FIRST + "certificate\nfact 1\nline\n" + "circuit\n"
            + "certificate\nstart 2 3\nnext 4\n" + "circuit\ninput a\noutput y 3\n")
        self.assertEqual(text, write_chain(circuits, certificates))
        self.assertEqual((circuits, certificates), read_chain(text))

    def test_written_texts_are_read_back_equal(self):
        for seed in range(6):
            circuits = [random_circuit(seed + 10 * k) for k in range(seed + 1)]
            certificates = [
                AlikeCertificate(*[random_clauses(10 * seed + k + n, 99, n) for n in range(4)]) for k in range(seed)]
            before = plain([circuits, certificates])
            text = write_chain(circuits, certificates)
            found = read_chain(text)
            self.assertEqual((circuits, certificates), found)
            self.assertIs(tuple, found.__class__)
            self.assertEqual(text, write_chain(*found))
            self.assertEqual(before, plain([circuits, certificates]))

    def test_chains_contain_the_texts_of_their_parts(self):
        circuits = [random_circuit(1), random_circuit(2)]
        certificate = AlikeCertificate([(1, 2)], [], [], [])
        expected = "flow\n" + write_circuit(circuits[0]) + write_certificate(certificate) + write_circuit(circuits[1])
        self.assertEqual(expected, write_chain(circuits, [certificate]))

    def test_empty_text(self):
        self.invalid_text(1, "")

    def test_title(self):
        for title in ("", "flows", "flow ", " flow", "flow 1", "circuit", "chain"):
            self.invalid_text(1, title + "\n" + FIRST)
        self.invalid_text(1, FIRST)

    def test_text_that_ends_where_a_further_line_must_come(self):
        self.invalid_text(2, "flow\n")
        self.invalid_text(6, "flow\n" + FIRST + EMPTY)
        self.invalid_text(8, "flow\n" + FIRST + "certificate\nfact 1\nnext 2\n")
        self.invalid_text(11, "flow\n" + FIRST + EMPTY + SECOND + EMPTY)

    def test_text_without_its_last_newline(self):
        self.invalid_text(1, "flow")
        self.invalid_text(4, "flow\n" + FIRST[:-1])
        self.invalid_text(5, "flow\n" + FIRST + EMPTY[:-1])
        self.invalid_text(3, "nonsense\nnonsense\nflow")

    def test_lines_that_may_not_come_next(self):
        self.invalid_text(2, "flow\nflow\n" + FIRST)
        self.invalid_text(2, "flow\n" + EMPTY + FIRST)
        self.invalid_text(5, "flow\n" + FIRST + FIRST)
        self.invalid_text(6, "flow\n" + FIRST + EMPTY + EMPTY + FIRST)
        self.invalid_text(5, "flow\n" + FIRST + "fact 1\n")
        self.invalid_text(5, "flow\n" + FIRST + "input b\n")
        self.invalid_text(6, "flow\n" + FIRST + EMPTY + "input b\n")
        self.invalid_text(7, "flow\n" + FIRST + "certificate\nline 1\nfact 1\n" + FIRST)
        self.invalid_text(5, "flow\n" + FIRST + "\n")
        self.invalid_text(5, "flow\n" + FIRST + "flow\n" + FIRST)

    def test_wrong_numbers(self):
        self.invalid_text(6, "flow\n" + FIRST + "certificate\nfact 01\n" + FIRST)
        self.invalid_text(6, "flow\n" + FIRST + "certificate\nfact 1000000\n" + FIRST)
        self.invalid_text(7, "flow\n" + FIRST + EMPTY + "circuit\nand 0 1000000\n")

    def test_wrong_circuits(self):
        bad = "circuit\ninput A\n"
        self.invalid_circuit("inputs", 0, "flow\n" + bad)
        self.invalid_circuit("ands", 0, "flow\n" + FIRST + EMPTY + "circuit\nand 2 2\n")
        self.invalid_circuit("inputs", 0, "flow\n" + bad + EMPTY + "circuit\nand 2 2\n")
        self.invalid_circuit("outputs", 1, "flow\ncircuit\noutput x 0\noutput x 0\n" + EMPTY + bad)

    def test_wrong_lines_are_told_before_wrong_circuits(self):
        bad = "circuit\ninput A\n"
        self.invalid_text(4, "flow\n" + bad + "input b b\n")
        self.invalid_text(5, "flow\n" + bad + EMPTY)
        self.invalid_text(6, "flow\n" + bad + EMPTY + "circuit\nnonsense\n")

    def test_no_fault(self):
        self.assertIsNone(fault_of_text("flow\n" + FIRST))
        self.assertIsNone(fault_of_text("flow\n" + FIRST + EMPTY + SECOND))
        self.assertIsNone(fault_of_text("flow\n" + FIRST + EMPTY + FIRST + EMPTY + SECOND))

    def test_faults_of_the_chain(self):
        other = "circuit\ninput a\noutput y 3\n"
        self.assertEqual((0, "goals", 0), fault_of_text("flow\n" + FIRST + EMPTY + other))
        self.assertEqual((1, "goals", 0), fault_of_text("flow\n" + FIRST + EMPTY + SECOND + EMPTY + other))
        self.assertEqual((0, "interfaces", 0), fault_of_text("flow\n" + FIRST + EMPTY + "circuit\n"))
        self.assertEqual((0, "start", 0), fault_of_text("flow\n" + FIRST + "certificate\nfact 999999\n" + FIRST))

    def test_fault_of_a_chain_with_facts(self):
        circuit = Circuit(["a"], [("q", 0, 2)], [], [("y", 4)])
        certificate = AlikeCertificate(same_clauses(4, 6), [], [], [])
        text = write_chain([circuit, circuit], [certificate])
        self.assertIsNone(fault_of_text(text))
        self.assertEqual((0, "goals", 0), fault_of_text(text.replace("fact 5 6\n", "").replace("fact 4 7\n", "")))
