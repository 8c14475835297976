"""The whole program: designs, taken through flows, mapped, compared, and run in time."""

import random
import unittest

from designs import Writer
from helpers import SuregateTest
from random_netlists import random_delays
from test_reading import random_words

from suregate.compare.compare import compare
from suregate.errors import InvalidSource, TooManyStates
from suregate.flow.flow import run_flow
from suregate.judge.alike import fault_of_alike
from suregate.judge.cover import fault_of_cover
from suregate.judge.longest import fault_of_longest
from suregate.judge.ring import fault_of_ring
from suregate.judge.unlike import fault_of_unlike
from suregate.judge.ways import fault_of_ways
from suregate.mapping.covers import map_circuit, netlist_circuit
from suregate.mapping.netlist import netlist_depth, run_netlist
from suregate.retime.search import least_depth
from suregate.runs.plain import run
from suregate.source.compiling import compile_design
from suregate.source.design import read_design
from suregate.source.reading import bits_of_words, run_design, words_of_bits
from suregate.source.writing import write_design
from suregate.stuck.finding import finding_courses
from suregate.stuck.places import with_stuck
from suregate.text.flows import fault_of_text, read_chain, write_chain
from suregate.times.arrivals import arrivals, least_period, longest_trail, slacks
from suregate.times.timed import timed_run

SCRIPTS = (
    ["hash", "rules", "balance", "refactor", "sweep", "merge", "trim", "retime", "trim", "hash"],
    ["sweep", "trim", "merge", "refactor", "balance", "retime", "sweep", "trim"],
    ["hidden", "retime", "merge", "trim", "rules"])

TRAFFIC = """
# A light that goes round, and a counter of the cars that have waited.
input car 1
input walk 1
register light 2 0        # 0 red, 1 green, 2 yellow
register waited 3 0
let full = waited == 3'7
let go = (light == 2'0) & (full | walk)
next light = go ? 2'1 : light == 2'1 ? 2'2 : light == 2'2 ? 2'0 : light
next waited = light == 2'1 ? 3'0 : (car & ~full) ? waited + 3'1 : waited
output shown = light
output many = waited
output alarm = full & (light != 2'1)
"""


class WholeTest(SuregateTest):
    def check_circuit(self, design, circuit, course, expected):
        """Checks that a circuit shows the outputs of the design."""
        told = run(circuit, [bits_of_words(design.inputs, row) for row in course])
        self.assertEqual(expected, [words_of_bits(design.outputs, bits) for bits in told])

    def check_mapped(self, design, circuit, course, expected, size):
        """Checks the mapped circuit: its cover, its depth, its times, and its run in time."""
        mapping = map_circuit(circuit, size)
        netlist = mapping.netlist
        self.assertIsNone(fault_of_cover(circuit, netlist, mapping.literals))
        self.assertIsNone(fault_of_ways(circuit, size, mapping.labels, mapping.ways))
        self.assertLessEqual(netlist_depth(netlist), max(mapping.labels + [1]))
        bits = [bits_of_words(design.inputs, row) for row in course]
        self.assertEqual(expected, [words_of_bits(design.outputs, row) for row in run_netlist(netlist, bits)])
        delays = random_delays(size, netlist, 100)
        self.assertIsNone(fault_of_longest(netlist, delays, arrivals(netlist, delays), longest_trail(netlist, delays)))
        chance = random.Random(size)
        choices = [chance.randrange(10 ** 6) for _ in range(3000)]
        period = least_period(netlist, delays)
        self.assertTrue(period == 1 or min(slacks(netlist, delays, period)) <= 0)
        timed = timed_run(netlist, delays, period, bits, choices)
        self.assertEqual(expected, [words_of_bits(design.outputs, row) for row in timed])
        self.check_circuit(design, netlist_circuit(netlist), course, expected)

    def check_design(self, design, script, seed):
        """Checks a design through a flow, and the last circuit of the flow mapped and compared."""
        self.assertEqual(design, read_design(write_design(design)))
        course = random_words(seed, design, 12)
        expected = run_design(design, course)
        circuit = compile_design(design)
        flow = run_flow(circuit, script, most=500)
        self.assertIsNone(flow.fault())
        for step in flow:
            self.check_circuit(design, step, course, expected)
        text = write_chain(flow.circuits, flow.certificates)
        self.assertEqual((flow.circuits, flow.certificates), read_chain(text))
        self.assertIsNone(fault_of_text(text))
        last = flow.last_circuit
        depth, _, ring = least_depth(last)
        self.assertEqual(None if last.ands else 0, fault_of_ring(last, depth - 1, ring))
        self.check_mapped(design, last, course, expected, 2 + seed % 5)
        try:
            word, certificate = compare(circuit, last, most=500)
        except TooManyStates:
            return flow
        self.assertEqual("alike", word)
        self.assertIsNone(fault_of_alike(circuit, last, certificate))
        return flow

    def test_traffic_lights(self):
        design = read_design(TRAFFIC)
        for seed, script in enumerate(SCRIPTS):
            flow = self.check_design(design, script, seed)
            self.assertLessEqual(len(flow.last_circuit.ands), len(flow.circuits[0].ands))

    def test_stuck_places_of_traffic_lights(self):
        circuit = run_flow(compile_design(read_design(TRAFFIC)), ["hidden"]).last_circuit
        tests = finding_courses(circuit, most=500)
        self.assertEqual([], tests.hidden)
        for place, value, number, cycle in tests.found:
            stuck = with_stuck(circuit, place, value)
            course = tests.courses[number]
            self.assertNotEqual(run(circuit, course)[cycle], run(stuck, course)[cycle])
        place, value, _, _ = tests.found[7]
        stuck = with_stuck(circuit, place, value)
        word, course, layers = compare(circuit, stuck, most=500)
        self.assertEqual("unlike", word)
        self.assertIsNone(fault_of_unlike(circuit, stuck, course, layers))

    def test_designs_by_chance(self):
        checked = 0
        for seed in range(60):
            text, _ = Writer(seed).design(3)
            try:
                design = read_design(text)
                read_design(write_design(design))
            except InvalidSource:
                continue
            if sum(width for _, width, _ in design.registers) > 9 or sum(width for _, width in design.inputs) > 8:
                continue
            script = SCRIPTS[seed % 2]
            self.check_design(design, script, seed)
            checked += 1
        self.assertGreater(checked, 20)

    def test_two_designs_for_one_thing(self):
        one = compile_design(read_design(
            "input a 3\nregister s 5 0\nnext s = s + {2'0, a}\noutput y = s[4]\noutput z = s == 5'0\n"))
        other = compile_design(read_design(
            "input a 3\nregister s 5 31\nnext s = s - {2'0, a}\noutput y = ~s[4]\noutput z = -s == 5'1\n"))
        word, certificate = compare(one, other, most=100)
        self.assertEqual("alike", word)
        self.assertIsNone(fault_of_alike(one, other, certificate))
        wrong = compile_design(read_design(
            "input a 3\nregister s 5 31\nnext s = s - {2'0, a}\noutput y = ~s[4]\noutput z = s == 5'30\n"))
        word, course, layers = compare(one, wrong, most=100)
        self.assertEqual(("unlike", [[0, 0, 0]], []), (word, course, layers))


if __name__ == "__main__":
    unittest.main()
