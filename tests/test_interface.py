"""The interface: its names, their arguments, and the files in which they are defined."""

import importlib
import inspect
import unittest

# For each file: its functions, and its classes with their arguments, methods and properties.
INTERFACE = {
    "graph.net": {"Net": ("input_count latches ands", {}, "first_latch first_and node_count")},
    "graph.circuit": {
        "is_name": "text",
        "Circuit": ("inputs latches ands outputs", {"as_net": "", "__eq__": "other"}, "")},
    "graph.builder": {
        "Builder": ("leaf_count", {
            "pair_of": "literal", "level_of": "literal", "both": "left right", "either": "left right",
            "unlike": "left right", "choose": "test yes no"}, ""),
        "image_of": "images literal", "leaf_images": "circuit", "rebuilt": "circuit builder images"},
    "graph.joining": {"Joined": ("left right", {"from_left": "literal", "from_right": "literal"}, "")},
    "runs.plain": {
        "value_of": "values literal", "node_values": "net state row", "start_state": "circuit",
        "step": "circuit state row", "cycles": "circuit course", "run": "circuit course",
        "state_after": "circuit course"},
    "runs.packed": {
        "word_of": "words literal mask", "packed_values": "net state_words row_words mask",
        "mask_of": "case_count", "row_of": "count number", "all_rows": "count", "packed_run": "circuit courses"},
    "text.circuits": {"write_circuit": "circuit", "read_circuit": "text"},
    "text.certificates": {"write_certificate": "certificate", "read_certificate": "text"},
    "text.flows": {"write_chain": "circuits certificates", "read_chain": "text", "fault_of_text": "text"},
    "clauses.units": {
        "Units": ("clauses", {"add_clause": "clause", "spread": "literals", "follows": "line"}, ""),
        "first_unfounded": "clauses lines"},
    "clauses.search": {
        "Search": ("count clauses", {"add_clause": "clause", "model_under": "assumed"}, ""),
        "decide": "count clauses assumed"},
    "frames.frames": {
        "in_frame": "net clause frame", "frame_clauses": "net frame", "start_clauses": "net",
        "link_clauses": "net frame", "same_clauses": "x y", "opening_clauses": "net last"},
    "judge.certificate": {
        "AlikeCertificate": ("facts start_lines lines next_lines", {"__eq__": "other"}, "")},
    "judge.alike": {
        "fault_of_alike": "left right certificate", "fault_of_chain": "circuits certificates"},
    "judge.images": {"image_certificate": "before after images extra"},
    "passes.structure": {
        "hash_circuit": "circuit", "apply_rules": "circuit", "trim": "circuit", "needed_nodes": "circuit",
        "and_count": "circuit"},
    "passes.balance": {"balance": "circuit", "balanced": "circuit", "levels": "circuit", "depth": "circuit"},
    "tables.tables": {
        "full_table": "count", "leaf_table": "index count", "half_table": "table index value count",
        "depends_on": "table index count", "cone_table": "net literal leaves"},
    "tables.products": {"products_table": "products count", "sum_of_products": "table count"},
    "tables.networks": {"network_table": "network count", "network_for": "table count"},
    "tables.cuts": {"cuts_of": "net size"},
    "passes.refactor": {"replace_cones": "circuit choice", "settled_choice": "circuit", "refactor": "circuit"},
    "sweep.likeness": {"Likeness": ("net clauses", {"parting": "x y", "lines_since": "count"}, "")},
    "sweep.sweep": {"like_literals": "circuit", "sweep": "circuit"},
    "latches.latches": {"steady_literals": "circuit", "merge_latches": "circuit"},
    "compare.reach": {"rows_that_differ": "joined state", "next_states": "joined state", "explore": "joined most"},
    "compare.facts": {"blocking_clauses": "states first_latch latch_count"},
    "compare.compare": {"compare": "left right most"},
    "judge.unlike": {"fault_of_unlike": "left right course layers"},
    "retime.layers": {"retime": "circuit labels"},
    "retime.search": {"labels_for": "circuit depth", "least_depth": "circuit"},
    "retime.weights": {
        "pin_weights": "circuit", "check_labels": "circuit labels", "depth_under": "circuit labels"},
    "judge.ring": {"fault_of_ring": "circuit depth ring"},
    "mapping.netlist": {
        "Netlist": ("inputs registers tables outputs", {"__eq__": "other"}, ""),
        "signal_values": "netlist state row", "run_netlist": "netlist course", "signal_levels": "netlist",
        "netlist_depth": "netlist"},
    "mapping.flow": {"ways_or_cut": "net node limit size"},
    "mapping.covers": {
        "Mapping": ("netlist literals labels ways", {}, ""), "map_circuit": "circuit size",
        "netlist_circuit": "netlist"},
    "stuck.places": {
        "places_of": "circuit", "with_stuck": "circuit place value", "first_difference": "circuit other course"},
    "stuck.finding": {"CourseSet": ("courses found hidden", {}, ""), "finding_courses": "circuit most"},
    "stuck.hidden": {"remove_hidden": "circuit most"},
    "flow.flow": {
        "Flow": ("circuit", {"__iter__": "", "apply": "word most", "fault": ""}, "last_circuit"),
        "run_flow": "circuit script most"},
    "judge.cover": {"fault_of_cover": "circuit netlist literals"},
    "judge.ways": {"fault_of_ways": "circuit size labels ways"},
    "times.arrivals": {
        "check_delays": "netlist delays", "arrivals": "netlist delays", "longest_time": "netlist delays",
        "least_period": "netlist delays", "longest_trail": "netlist delays", "slacks": "netlist delays period"},
    "times.timed": {
        "TimedMachine": ("netlist delays period choices", {"cycle": "row", "signals": ""}, ""),
        "timed_run": "netlist delays period course choices"},
    "judge.longest": {"fault_of_longest": "netlist delays entries trail"},
    "source.design": {
        "Design": ("inputs registers lets nexts outputs", {"__eq__": "other"}, ""), "read_design": "text"},
    "source.writing": {"write_design": "design"},
    "source.reading": {
        "bits_of_words": "ports words", "words_of_bits": "ports bits", "run_design": "design course"},
    "source.compiling": {"compile_design": "design"},
}
# The arguments that are passed by keyword, with their default values.
BY_KEYWORD = {
    ("compare.compare", "compare"): inspect.Parameter.empty,
    ("stuck.finding", "finding_courses"): inspect.Parameter.empty,
    ("stuck.hidden", "remove_hidden"): inspect.Parameter.empty,
    ("flow.flow", "run_flow"): 200,
    ("flow.flow", "Flow", "apply"): 200,
}


def arguments_of(function):
    return list(inspect.signature(function).parameters)


class InterfaceTest(unittest.TestCase):
    def test_functions(self):
        for file, names in INTERFACE.items():
            module = importlib.import_module("suregate." + file)
            for name, told in names.items():
                value = vars(module)[name]
                self.assertEqual("suregate." + file, value.__module__, name)
                if isinstance(told, str):
                    self.assertTrue(inspect.isfunction(value), name)
                    self.assertEqual(told.split(), arguments_of(value), name)

    def test_classes(self):
        for file, names in INTERFACE.items():
            module = importlib.import_module("suregate." + file)
            for name, told in names.items():
                if isinstance(told, tuple):
                    self.check_class(vars(module)[name], *told)

    def test_arguments_by_keyword(self):
        for (file, *names), default in BY_KEYWORD.items():
            value = importlib.import_module("suregate." + file)
            for name in names:
                value = vars(value)[name]
            parameter = inspect.signature(value).parameters["most"]
            self.assertEqual((inspect.Parameter.KEYWORD_ONLY, default), (parameter.kind, parameter.default))

    def check_class(self, value, arguments, methods, properties):
        self.assertTrue(inspect.isclass(value), value)
        self.assertEqual(arguments.split(), arguments_of(value), value)
        for method, expected in methods.items():
            self.assertEqual(["self", *expected.split()], arguments_of(vars(value)[method]), (value, method))
        for name in properties.split():
            self.assertIsInstance(vars(value)[name], property)


if __name__ == "__main__":
    unittest.main()
