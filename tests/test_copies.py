"""Promise [2]: arguments stay as they are, nothing is kept of them, and each returned list is new."""

import unittest

from helpers import plain, random_circuit, random_course, scramble

from suregate.clauses.search import Search, decide
from suregate.clauses.units import Units, first_unfounded
from suregate.compare.compare import compare
from suregate.compare.facts import blocking_clauses
from suregate.compare.reach import explore, next_states, rows_that_differ
from suregate.flow.flow import Flow, run_flow
from suregate.frames import frames
from suregate.graph.builder import Builder, image_of, leaf_images, rebuilt
from suregate.graph.circuit import Circuit
from suregate.graph.joining import Joined
from suregate.graph.net import Net
from suregate.judge.alike import fault_of_alike, fault_of_chain
from suregate.judge.certificate import AlikeCertificate
from suregate.judge.cover import fault_of_cover
from suregate.judge.images import image_certificate
from suregate.judge.longest import fault_of_longest
from suregate.judge.ring import fault_of_ring
from suregate.judge.unlike import fault_of_unlike
from suregate.judge.ways import fault_of_ways
from suregate.latches.latches import merge_latches, steady_literals
from suregate.mapping import netlist
from suregate.mapping.covers import Mapping, map_circuit, netlist_circuit
from suregate.mapping.flow import ways_or_cut
from suregate.passes import balance, refactor, structure
from suregate.retime.layers import retime
from suregate.retime.search import labels_for, least_depth
from suregate.retime.weights import check_labels, depth_under, pin_weights
from suregate.runs import packed, plain as plain_runs
from suregate.source import reading
from suregate.source.compiling import compile_design
from suregate.source.design import Design, read_design
from suregate.source.writing import write_design
from suregate.stuck.finding import CourseSet, finding_courses
from suregate.stuck.hidden import remove_hidden
from suregate.stuck.places import first_difference, places_of, with_stuck
from suregate.sweep.likeness import Likeness
from suregate.sweep.sweep import like_literals, sweep
from suregate.tables import networks, products, tables
from suregate.tables.cuts import cuts_of
from suregate.text.certificates import read_certificate, write_certificate
from suregate.text.circuits import read_circuit, write_circuit
from suregate.text.flows import fault_of_text, read_chain, write_chain
from suregate.times import arrivals
from suregate.times.timed import TimedMachine, timed_run


DELAY_OF_ONE = Circuit(["a"], [("q", 0, 2)], [], [("y", 4)])
DELAY_OF_TWO = Circuit(["a"], [("p", 0, 2), ("q", 0, 4)], [], [("y", 6)])


def copy_of(circuit):
    """Returns an equal circuit."""
    return Circuit(circuit.inputs, circuit.latches, circuit.ands, circuit.outputs)


def compared(left, right):
    """Compares two circuits."""
    return compare(left, right, most=100)


def found(circuit):
    """Finds courses for all stuck places."""
    return finding_courses(circuit, most=100)


def removed(circuit):
    """Removes the hidden places of a circuit."""
    return remove_hidden(circuit, most=100)


def new_netlist():
    """Returns a netlist."""
    return netlist.Netlist(["a"], [("q", 1, 2)], [((0, 1), 6), ((2, 0, 1), 99)], [("y", 3), ("z", 2)])


def calls():
    """Returns calls of functions and classes, each with arguments of its own."""
    builder = Builder(6)
    builder.unlike(2, 8)
    return [
        (Net, [2, [(0, 3)], [(2, 4)]]),
        (Circuit, [["a"], [("q", 0, 2)], [(2, 4)], [("y", 6)]]),
        (Circuit.as_net, [random_circuit(1)]),
        (leaf_images, [random_circuit(1)]),
        (image_of, [[0, 2, 5], 5]),
        (rebuilt, [random_circuit(1), builder, [0, 2, 4, 6, 8, 10, 12] + [3] * 12]),
        (Joined, [random_circuit(1), random_circuit(2)]),
        (plain_runs.value_of, [[0, 1], 3]),
        (plain_runs.node_values, [random_circuit(1).as_net(), [0, 1, 1], [1, 0, 1]]),
        (plain_runs.start_state, [random_circuit(1)]),
        (plain_runs.step, [random_circuit(1), [0, 1, 1], [1, 0, 1]]),
        (plain_runs.run, [random_circuit(1), random_course(1, 3, 9)]),
        (plain_runs.state_after, [random_circuit(1), random_course(1, 3, 9)]),
        (plain_runs.state_after, [random_circuit(1), []]),
        (packed.word_of, [[0, 2], 3, 3]),
        (packed.packed_values, [random_circuit(1).as_net(), [1, 2, 3], [3, 0, 1], 3]),
        (packed.row_of, [3, 5]),
        (packed.all_rows, [3]),
        (packed.packed_run, [random_circuit(1), [random_course(1, 3, 4), random_course(2, 3, 4)]]),
        (write_circuit, [random_circuit(1)]),
        (read_circuit, [write_circuit(random_circuit(1))]),
        (AlikeCertificate, [[[1, 2]], [[3]], [[]], [[4, 5]]]),
        (write_certificate, [AlikeCertificate([(1,)], [()], [(2, 3)], [(4,)])]),
        (read_certificate, ["certificate\nfact 1 2\nnext\n"]),
        (write_chain, [[random_circuit(1), random_circuit(2)], [AlikeCertificate([(1,)], [], [], [])]]),
        (read_chain, ["flow\ncircuit\ninput a\ncertificate\nline 2\ncircuit\n"]),
        (fault_of_text, ["flow\ncircuit\ninput a\ncertificate\nline 2\ncircuit\n"]),
        (Units, [[(2, 4), (3,), (5, 7, 9, 11)]]),
        (first_unfounded, [[(2, 4), (3, 4)], [(4,), (4, 6), (2,)]]),
        (Search, [4, [(2, 4), (3,)]]),
        (decide, [4, [(2, 4), (3, 4)], [5, 6]]),
        (decide, [4, [(2, 4), (3, 6)], [7]]),
        (frames.in_frame, [random_circuit(1).as_net(), (1, 2), 2]),
        (frames.frame_clauses, [random_circuit(1).as_net(), 2]),
        (frames.start_clauses, [random_circuit(1).as_net()]),
        (frames.link_clauses, [random_circuit(1).as_net(), 2]),
        (frames.same_clauses, [4, 7]),
        (frames.opening_clauses, [random_circuit(1).as_net(), 2]),
        (fault_of_alike, [random_circuit(1), random_circuit(2), AlikeCertificate([], [(0, 1)], [(2, 3)], [])]),
        (fault_of_chain, [[random_circuit(1), random_circuit(2)], [AlikeCertificate([], [(0, 1)], [], [])]]),
        (image_certificate, [random_circuit(1), random_circuit(1), list(range(0, 38, 2)), {7: [(1, 2)], 9: [()]}]),
        (structure.hash_circuit, [random_circuit(1)]),
        (structure.apply_rules, [random_circuit(1)]),
        (structure.trim, [random_circuit(1)]),
        (structure.needed_nodes, [random_circuit(1)]),
        (structure.and_count, [random_circuit(1)]),
        (balance.balance, [random_circuit(1)]),
        (balance.balanced, [random_circuit(1)]),
        (balance.levels, [random_circuit(1)]),
        (balance.depth, [random_circuit(1)]),
        (tables.cone_table, [random_circuit(1).as_net(), 36, [1, 2, 3, 4, 5, 6]]),
        (products.products_table, [[(0, 2), (1,)], 3]),
        (products.sum_of_products, [0b10010110, 3]),
        (networks.network_table, [([(2, 5), (3, 4)], 9), 2]),
        (networks.network_for, [0b10010110, 3]),
        (cuts_of, [random_circuit(1).as_net(), 4]),
        (refactor.replace_cones, [random_circuit(1), {}]),
        (refactor.replace_cones, [Circuit(["a", "b"], [], [(2, 4), (6, 5)], [("y", 9)]), {4: (1, 2)}]),
        (refactor.settled_choice, [random_circuit(1)]),
        (refactor.refactor, [random_circuit(1)]),
        (Likeness, [random_circuit(1).as_net(), [(2, 4), (6,)]]),
        (like_literals, [random_circuit(1)]),
        (sweep, [random_circuit(1)]),
        (steady_literals, [random_circuit(1)]),
        (merge_latches, [random_circuit(1)]),
        (rows_that_differ, [Joined(random_circuit(1), random_circuit(2)), [0, 1, 1, 0, 1, 0]]),
        (next_states, [Joined(random_circuit(1), random_circuit(2)), [0, 1, 1, 0, 1, 0]]),
        (explore, [Joined(random_circuit(1), random_circuit(1)), 100]),
        (explore, [Joined(copy_of(DELAY_OF_ONE), copy_of(DELAY_OF_TWO)), 100]),
        (blocking_clauses, [[(0, 1), (1, 1)], 3, 2]),
        (compared, [random_circuit(1), random_circuit(1)]),
        (compared, [copy_of(DELAY_OF_ONE), copy_of(DELAY_OF_TWO)]),
        (fault_of_unlike, [copy_of(DELAY_OF_ONE), copy_of(DELAY_OF_TWO), [[1], [0]], [[(1,)]]]),
        (retime, [Circuit(["a"], [("q", 0, 2)], [(4, 4)], [("y", 6)]), [1]]),
        (labels_for, [random_circuit(1), 0]),
        (labels_for, [random_circuit(1), 2]),
        (labels_for, [random_circuit(1), 9]),
        (least_depth, [random_circuit(1)]),
        (pin_weights, [random_circuit(1)]),
        (check_labels, [random_circuit(1), [0] * 12]),
        (depth_under, [random_circuit(1), [0] * 12]),
    ] + calls_of_mapping_and_flows() + calls_of_times_and_designs()


def calls_of_mapping_and_flows():
    """Returns calls of functions and classes for netlists, stuck places and flows."""
    return [
        (fault_of_ring, [random_circuit(1), 0, [("path", 7, ()), ("path", 7, ((8, 0),))]]),
        (netlist.Netlist, [["a"], [("q", 1, 2)], [((0, 1), 6)], [("y", 2)]]),
        (netlist.signal_values, [new_netlist(), [1], [0]]),
        (netlist.run_netlist, [new_netlist(), [[1], [0], [1]]]),
        (netlist.signal_levels, [new_netlist()]),
        (netlist.netlist_depth, [new_netlist()]),
        (ways_or_cut, [random_circuit(1).as_net(), 18, [True] * 19, 2]),
        (ways_or_cut, [random_circuit(1).as_net(), 18, [False] * 19, 2]),
        (Mapping, [None, [1, 2], [3, 4], [[[1, 2]], []]]),
        (map_circuit, [random_circuit(1), 3]),
        (netlist_circuit, [new_netlist()]),
        (places_of, [random_circuit(1)]),
        (with_stuck, [random_circuit(1), ("left", 3), 1]),
        (with_stuck, [random_circuit(1), ("output", 0), 1]),
        (first_difference, [random_circuit(1), random_circuit(2), random_course(1, 3, 9)]),
        (CourseSet, [[[[0, 1]], [[1, 1], [0, 1]]], [(("left", 0), 0, 0, 0)], [(("left", 0), 1, None)]]),
        (found, [random_circuit(1, and_count=5)]),
        (removed, [random_circuit(1, and_count=5)]),
        (Flow, [random_circuit(1)]),
        (run_flow, [random_circuit(1), []]),
        (run_flow, [random_circuit(1), ["hash", "retime", "hidden"]]),
    ]


def calls_of_times_and_designs():
    """Returns calls of functions and classes for times and designs, and of the judges of netlists."""
    mapping = map_circuit(random_circuit(1), 3)
    text = write_design(new_design())
    return [
        (fault_of_cover, [random_circuit(1), mapping.netlist, mapping.literals]),
        (fault_of_ways, [random_circuit(1), 3, mapping.labels, mapping.ways]),
        (fault_of_ways, [random_circuit(1), 3, [2] * 12, [[[1, 2]]] * 12]),
        (arrivals.check_delays, [new_netlist(), [(1, (2, 3)), (4, (5, 6, 7))]]),
        (arrivals.arrivals, [new_netlist(), [(1, (2, 3)), (4, (5, 6, 7))]]),
        (arrivals.longest_time, [new_netlist(), [(1, (2, 3)), (4, (5, 6, 7))]]),
        (arrivals.least_period, [new_netlist(), [(1, (2, 3)), (4, (5, 6, 7))]]),
        (arrivals.longest_trail, [new_netlist(), [(1, (2, 3)), (4, (5, 6, 7))]]),
        (arrivals.slacks, [new_netlist(), [(1, (2, 3)), (4, (5, 6, 7))], 20]),
        (TimedMachine, [new_netlist(), [(1, (2, 3)), (4, (5, 6, 7))], 20, [1, 2, 3]]),
        (timed_run, [new_netlist(), [(1, (2, 3)), (4, (5, 6, 7))], 9, [[1], [0], [1]], [1, 2, 3]]),
        (fault_of_longest, [new_netlist(), [(1, (2, 3)), (4, (5, 6, 7))], [0, 0, 4, 15], [(1, 0), (2, 1), (3, 0)]]),
        (Design, [[("a", 4)], [("q", 2, 1)], [("x", 4, ("name", "a"))], [("name", "q")], [("y", 4, ("name", "x"))]]),
        (read_design, [text]),
        (write_design, [new_design()]),
        (reading.bits_of_words, [[("a", 4), ("b", 2)], [9, 2]]),
        (reading.words_of_bits, [[("a", 2), ("b", 1)], [1, 0, 1]]),
        (reading.run_design, [new_design(), [[3], [9], [15]]]),
        (compile_design, [new_design()]),
    ]


def new_design():
    """Returns a design."""
    return Design(
        [("a", 4)], [("q", 4, 1)], [("x", 4, ("+", ("name", "a"), ("name", "q")))], [("name", "x")],
        [("y", 4, ("not", ("name", "x"))), ("z", 2, ("pick", ("name", "q"), 2, 1))])


class CopiesTest(unittest.TestCase):
    def test_arguments_stay_as_they_are(self):
        for function, arguments in calls():
            before = plain(arguments)
            function(*arguments)
            self.assertEqual(before, plain(arguments), function)

    def test_results_do_not_hang_on_each_other(self):
        for function, arguments in calls():
            first = function(*arguments)
            before = plain(first)
            second = function(*arguments)
            scramble(first)
            self.assertEqual(before, plain(second), function)
            self.assertEqual(before, plain(function(*arguments)), function)

    def test_results_do_not_hang_on_arguments(self):
        for function, arguments in calls():
            result = function(*arguments)
            before = plain(result)
            scramble(arguments)
            self.assertEqual(before, plain(result), function)

    def test_calls_that_raise_an_error_change_nothing(self):
        failing = [
            (Circuit, [["a"], [("q", 2, 2)], [(2, 4)], [("y", 6)]]),
            (rebuilt, [random_circuit(1), Builder(1), [999] * 19]),
            (Joined, [random_circuit(1), random_circuit(2, output_count=1)]),
            (plain_runs.run, [random_circuit(1), [[0, 0, 0], [0, 0, 2]]]),
            (plain_runs.state_after, [random_circuit(1), [[0, 0, 0], [0, 0]]]),
            (tables.cone_table, [random_circuit(1).as_net(), 36, [1]]),
            (cuts_of, [random_circuit(1).as_net(), 7]),
            (refactor.replace_cones, [random_circuit(1), {18: (1,), 3: ()}]),
            (explore, [Joined(random_circuit(1), random_circuit(1)), 1]),
            (compared, [random_circuit(1), random_circuit(2, output_count=1)]),
            (retime, [random_circuit(1), [0] * 11]),
            (check_labels, [random_circuit(1), [0] * 11]),
            (depth_under, [random_circuit(1), [0] * 12 + [-1]]),
            (netlist.Netlist, [["a"], [("q", 1, 2)], [((0, 1), 16)], [("y", 2)]]),
            (netlist.run_netlist, [new_netlist(), [[1], [2], [1]]]),
            (map_circuit, [random_circuit(1), 7]),
            (first_difference, [random_circuit(1), random_circuit(2), [[0, 0, 1], [0, 1]]]),
            (run_flow, [random_circuit(1), ["hash", "no"]]),
            (arrivals.slacks, [new_netlist(), [(1, (2, 3)), (4, (5, 6, 7))], 0]),
            (arrivals.arrivals, [new_netlist(), [(1, (2, 3)), (4, (5, 6))]]),
            (timed_run, [new_netlist(), [(1, (2, 3)), (4, (5, 6, 7))], 9, [[1], [2]], [1, 2, 3]]),
            (reading.run_design, [new_design(), [[3], [16]]]),
        ]
        for function, arguments in failing:
            before = plain(arguments)
            with self.assertRaises(ValueError):
                function(*arguments)
            self.assertEqual(before, plain(arguments), function)


if __name__ == "__main__":
    unittest.main()
