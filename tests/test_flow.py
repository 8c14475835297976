"""Promises [99] to [101]: flows."""

import unittest

from helpers import SuregateTest, edge_circuits, plain, random_circuit, random_course, tree_circuit
from joint_circuits import binary_rounds, counter

from suregate.errors import InvalidCircuit, InvalidStep, TooManyStates
from suregate.flow.flow import Flow, run_flow
from suregate.graph.circuit import Circuit
from suregate.judge.alike import fault_of_chain
from suregate.judge.certificate import AlikeCertificate
from suregate.latches.latches import merge_latches
from suregate.passes.balance import balance
from suregate.passes.refactor import refactor
from suregate.passes.structure import apply_rules, hash_circuit, trim
from suregate.retime.layers import retime
from suregate.retime.search import least_depth
from suregate.runs.plain import run
from suregate.stuck.hidden import remove_hidden
from suregate.sweep.sweep import sweep
from suregate.text.flows import fault_of_text, read_chain, write_chain

STEPS = {
    "hash": hash_circuit, "rules": apply_rules, "balance": balance, "refactor": refactor, "sweep": sweep,
    "merge": merge_latches, "trim": trim}
WORDS = list(STEPS) + ["retime", "hidden"]
# Latches in front of a row of ands; retiming takes two layers.
ROW = Circuit(
    ["a"], [("p", 0, 2), ("q", 0, 4)], [(6, 6)] + [(2 * node, 2 * node) for node in range(4, 9)], [("y", 18)])


class FlowTest(SuregateTest):
    def check_chain(self, flow):
        self.assertEqual(len(flow.circuits), len(flow.certificates) + 1)
        self.assertIsNone(flow.fault())
        self.assertIsNone(fault_of_chain(flow.circuits, flow.certificates))
        self.assertEqual(flow.circuits, [circuit for circuit in flow])
        self.assertEqual(flow.circuits, list(flow))
        self.assertIs(flow.circuits[-1], flow.last_circuit)
        text = write_chain(flow.circuits, flow.certificates)
        self.assertEqual((flow.circuits, flow.certificates), read_chain(text))
        self.assertIsNone(fault_of_text(text))
        first = flow.circuits[0]
        for seed in range(2):
            course = random_course(seed, len(first.inputs), 14)
            self.assertEqual(run(first, course), run(flow.last_circuit, course))

    def test_new_flow(self):
        for circuit in edge_circuits():
            before = plain(circuit)
            flow = Flow(circuit)
            self.assertEqual(([circuit], []), (flow.circuits, flow.certificates))
            self.check_chain(flow)
            self.assertEqual(before, plain(circuit))

    def test_later_changes_of_the_circuit_do_not_count(self):
        circuit = random_circuit(1)
        flow = Flow(circuit)
        circuit.ands.clear()
        circuit.outputs.clear()
        self.assertEqual([random_circuit(1)], flow.circuits)

    def test_each_of_the_first_seven_words(self):
        for circuit in edge_circuits() + [random_circuit(1), tree_circuit(2)]:
            for word, change in STEPS.items():
                flow = Flow(circuit)
                self.assertIsNone(flow.apply(word))
                after, certificate = change(circuit)
                self.assertEqual(([circuit, after], [certificate]), (flow.circuits, flow.certificates))
                self.check_chain(flow)

    def test_hidden(self):
        for seed in range(5):
            circuit = random_circuit(seed, 2, 2, 9, 2)
            flow = Flow(circuit)
            self.assertIsNone(flow.apply("hidden"))
            after, certificate = remove_hidden(circuit, most=200)
            self.assertEqual(([circuit, after], [certificate]), (flow.circuits, flow.certificates))
            self.check_chain(flow)

    def test_retime(self):
        # One layer: the latch in front of two ands; no layer: nothing can become less deep.
        single = Circuit(["a"], [("p", 0, 2)], [(4, 4), (6, 6)], [("y", 8)])
        none = Circuit(["a"], [("p", 0, 2)], [(2, 2), (6, 6)], [("y", 8)])
        for circuit, count in ((ROW, 2), (single, 1), (none, 0), (Circuit([], [], [], []), 0)):
            flow = Flow(circuit)
            self.assertIsNone(flow.apply("retime"))
            layers = retime(circuit, least_depth(circuit)[1])
            self.assertEqual(count, len(layers))
            self.assertEqual([circuit] + [after for after, _ in layers], flow.circuits)
            self.assertEqual([certificate for _, certificate in layers], flow.certificates)
            self.check_chain(flow)

    def test_steps_apply_to_the_last_circuit(self):
        circuit = random_circuit(4, 3, 3, 30, 3)
        flow = Flow(circuit)
        expected = [circuit]
        for word in ("rules", "sweep", "trim", "merge", "refactor", "balance", "hash"):
            flow.apply(word)
            expected.append(STEPS[word](expected[-1])[0])
            self.assertEqual(expected, flow.circuits)
        self.check_chain(flow)

    def test_apply_a_word_that_is_no_step(self):
        flow = Flow(random_circuit(1))
        flow.apply("hash")
        before = plain(flow)
        for word in ("", "Hash", "hash ", "retime2", "hide", "certificate"):
            self.assert_error(InvalidStep, {"index": 0}, flow.apply, word)
            self.assertEqual(before, plain(flow))

    def test_step_that_raises_an_error(self):
        flow = Flow(counter(3))
        flow.apply("hash")
        before = plain(flow)
        with self.assertRaises(TooManyStates):
            flow.apply("hidden", most=7)
        self.assertEqual(before, plain(flow))
        flow.apply("trim", most=1)
        self.assertEqual(3, len(flow.circuits))
        flow.apply("hidden", most=64)
        self.assertEqual(4, len(flow.circuits))
        self.check_chain(flow)

    def test_exactly_200_states(self):
        # Nothing of these circuits is needed, so the joint states are just their own; 200 of them, and 201.
        def counts(many):
            circuit = binary_rounds(many, 0)
            return Circuit(circuit.inputs, circuit.latches, circuit.ands, [("y", 0)])

        flow = Flow(counts(200))
        flow.apply("hidden")
        self.check_chain(flow)
        self.check_chain(run_flow(counts(200), ["hidden"]))
        with self.assertRaises(TooManyStates):
            Flow(counts(201)).apply("hidden")
        with self.assertRaises(TooManyStates):
            run_flow(counts(201), ["hidden"])

    def test_most_is_200_by_default(self):
        # Two counters of the same width have as many joint states as one: 256 and 128 here.
        with self.assertRaises(TooManyStates):
            Flow(counter(8)).apply("hidden")
        flow = Flow(counter(7))
        flow.apply("hidden")
        self.check_chain(flow)
        with self.assertRaises(TooManyStates):
            run_flow(counter(8), ["hash", "hidden"])
        self.check_chain(run_flow(counter(7), ["hash", "hidden"]))

    def test_retime_that_keeps_too_many_latches(self):
        # One latch in front of some ands, each with another and behind it: each gets a latch of its own.
        def spread(count):
            return Circuit(["a"], [("q", 0, 2)], [(4, 4)] * count + [(2 * k, 2 * k) for k in range(3, 3 + count)], [])

        flow = run_flow(spread(40), ["retime"])
        self.assertEqual(40, len(flow.last_circuit.latches))
        flow = Flow(spread(41))
        self.assert_error(InvalidCircuit, {"part": "latches", "index": 40}, flow.apply, "retime")
        self.assertEqual(([spread(41)], []), (flow.circuits, flow.certificates))
        flow.apply("trim")
        self.assertEqual(2, len(flow.circuits))

    def test_fault(self):
        flow = run_flow(random_circuit(3), ["hash", "sweep", "rules"])
        self.assertIsNone(flow.fault())
        flow.certificates[1] = AlikeCertificate([(0,)], [], [], [])
        self.assertEqual((1, "start", 0), flow.fault())
        flow.certificates[0] = AlikeCertificate([], [()], [], [])
        self.assertEqual((0, "start_lines", 0), flow.fault())

    def test_run_flow(self):
        for seed in range(4):
            circuit = random_circuit(seed, 2, 3, 14, 3)
            before = plain(circuit)
            script = ["hash", "rules", "balance", "refactor", "sweep", "merge", "trim", "retime", "hidden"]
            self.assertEqual(WORDS, script)
            flow = run_flow(circuit, script, most=500)
            self.assertIs(Flow, flow.__class__)
            self.assertEqual(WORDS, script)
            self.assertEqual(before, plain(circuit))
            self.check_chain(flow)
            expected = Flow(circuit)
            for word in script:
                expected.apply(word, most=500)
            self.assertEqual((expected.circuits, expected.certificates), (flow.circuits, flow.certificates))

    def test_empty_script(self):
        for circuit in edge_circuits():
            flow = run_flow(circuit, [])
            self.assertEqual(([circuit], []), (flow.circuits, flow.certificates))

    def test_scripts_with_a_wrong_word(self):
        circuit = random_circuit(1)
        for script, index in (
                (["hush"], 0), (["hash", "Trim"], 1), (["hash", "trim", "", "x"], 2), (["hash"] * 19 + ["hsah"], 19),
                (["hash"] * 3 + ["y"] + ["hash"] * 30, 3)):
            before = plain([circuit, script])
            self.assert_error(InvalidStep, {"index": index}, run_flow, circuit, script)
            self.assertEqual(before, plain([circuit, script]))

    def test_length_of_scripts(self):
        circuit = random_circuit(1)
        self.assertEqual(21, len(run_flow(circuit, ["hash", "trim"] * 10).circuits))
        self.assert_error(InvalidStep, {"index": 20}, run_flow, circuit, ["hash"] * 21)
        self.assert_error(InvalidStep, {"index": 20}, run_flow, circuit, ["hash"] * 20 + ["x", "y"])

    def test_nothing_is_applied_ahead_of_a_wrong_word(self):
        # The first step would raise another error.
        with self.assertRaises(InvalidStep) as caught:
            run_flow(counter(3), ["hidden", "hash", "wrong"], most=1)
        self.assertEqual(2, caught.exception.index)
        with self.assertRaises(InvalidStep):
            run_flow(counter(3), ["hidden"] * 21, most=1)
        with self.assertRaises(TooManyStates):
            run_flow(counter(3), ["hash", "hidden"], most=1)

    def test_words_several_times(self):
        flow = run_flow(ROW, ["retime", "retime", "trim", "trim", "hash", "hash", "hidden"])
        self.check_chain(flow)
        self.assertEqual(flow.circuits[-2], flow.circuits[-3])


if __name__ == "__main__":
    unittest.main()
