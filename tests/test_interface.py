"""The names and arguments of the interface, each defined in the file that it stands under."""

import importlib
import inspect
import unittest

FUNCTIONS = {
    "tokens": ["split_tokens(text)", "is_good(token)"],
    "reader": ["find_fault(text)", "read_netlist(text)"],
    "writer": ["write_netlist(netlist)"],
    "gates": [
        "input_counts(kind)",
        "gate_value(kind, values)",
        "net_values(netlist, inputs, states)",
        "output_values(netlist, inputs, states)",
        "next_states(netlist, inputs, states)",
    ],
    "building": ["build_nodes(netlist)", "kept_nodes(netlist)"],
    "nodevalues": ["node_values(table, inputs, states)"],
    "cellkinds": ["cell_inputs(kind)", "cell_value(kind, values)"],
    "mapping": ["map_cells(netlist)"],
    "cellvalues": [
        "cell_values(circuit, inputs, states)",
        "circuit_outputs(circuit, inputs, states)",
        "circuit_next(circuit, inputs, states)",
    ],
    "listing": ["list_cells(circuit)"],
    "flaws": ["case_bits(circuit, case)", "shows(circuit, flaw, case)"],
    "flawtests": ["first_case(circuit, flaw)", "hidden_flaws(circuit)", "make_tests(circuit)"],
    "placing": [
        "cell_width(kind)",
        "check_placement(circuit, placement)",
        "first_placement(circuit, row_count)",
    ],
    "wirelength": ["net_wire(circuit, placement, net)", "placement_wire(circuit, placement)"],
    "improving": ["exchange(placement, one, other)", "improve(circuit, placement)"],
    "arranging": ["arrange(circuit, placement)", "arranged_pins(circuit, arrangement)"],
    "channels": ["route(circuit, arrangement)", "track_count(channel)", "fullness(channel)"],
    "lengths": ["net_length(channels, net)"],
    "arrivals": [
        "net_load(circuit, channels, net)",
        "net_arrivals(circuit, channels)",
        "longest_time(circuit, channels)",
        "longest_path(circuit, channels)",
    ],
    "cellshapes": ["cell_rectangles(kind, column, bottom)", "feed_rectangles(column, bottom)"],
    "wireshapes": ["channel_rectangles(channel, bottom)"],
    "masks": ["draw_masks(circuit, arrangement, channels)"],
    "sheet": ["write_sheet(rectangles, labels)", "read_sheet(text)"],
    "rectangles": ["touches(a, b)", "distance(a, b)", "surrounds(outer, inner)"],
    "shapes": ["shape_numbers(rectangles)"],
    "checking": ["find_breaches(rectangles)", "is_clean(rectangles)"],
    "levels": ["switch_state(kind, level)", "settle(node_count, transistors, fixed)"],
    "comparing": [
        "pin_places(circuit, arrangement, channels)",
        "open_nets(readback, places)",
        "short_nets(readback, places)",
        "agrees(netlist, readback, inputs, states)",
    ],
    "lifting": ["lift(readback)"],
    "chip": [
        "compile_chip(text, row_count)",
        "compile_placed(text, placement)",
        "machine_of(sheet)",
    ],
    "waves": ["net_waves(circuit, channels, before, inputs, states)", "value_at(wave, time)"],
    "equivalence": ["net_functions(netlist)", "find_difference(first, second)"],
    "flawcases": ["least_case(circuit, flaw)"],
}

METHODS = {
    ("clocked", "Clocked(netlist)"): ["states(self)", "load(self, states)", "clock(self, inputs)"],
    ("nodetable", "NodeTable(input_count, latch_count)"): [
        "size(self)",
        "node(self, number)",
        "input_node(self, i)",
        "latch_node(self, i)",
        "find_not(self, x)",
        "find_and(self, nodes)",
        "find_or(self, nodes)",
        "find_xor(self, x, y)",
        "find_mux(self, s, a, b)",
    ],
    ("readback", "Readback(rectangles, labels)"): [
        "pieces(self)",
        "piece_nodes(self)",
        "node_count(self)",
        "transistors(self)",
        "boxes(self)",
        "ports(self)",
        "node_at(self, layer, x, y)",
    ],
    ("machine", "Machine(rectangles, labels)"): [
        "input_numbers(self)",
        "output_numbers(self)",
        "latch_numbers(self)",
        "states(self)",
        "load(self, states)",
        "levels(self, inputs)",
        "clock(self, inputs)",
    ],
    ("diagrams", "Diagrams(count)"): [
        "size(self)",
        "node(self, number)",
        "variable(self, i)",
        "choose(self, f, g, h)",
        "negate(self, f)",
        "both(self, f, g)",
        "either(self, f, g)",
        "differ(self, f, g)",
        "value(self, f, bits)",
        "first_case(self, f)",
    ],
}


class InterfaceTest(unittest.TestCase):
    def check(self, module, holder, entry):
        """Check that a holder defines what an entry tells, in the file of a module."""
        with self.subTest(module=module, entry=entry):
            name = entry.split("(")[0]
            self.assertIn(name, vars(holder))
            thing = vars(holder)[name]
            self.assertEqual(thing.__module__, f"gatesread.{module}")
            self.assertEqual(name + str(inspect.signature(thing)), entry)

    def test_functions(self):
        for module, entries in FUNCTIONS.items():
            for entry in entries:
                self.check(module, importlib.import_module(f"gatesread.{module}"), entry)

    def test_classes(self):
        for (module, made), entries in METHODS.items():
            holder = importlib.import_module(f"gatesread.{module}")
            self.check(module, holder, made)
            for entry in entries:
                self.check(module, vars(holder)[made.split("(")[0]], entry)


if __name__ == "__main__":
    unittest.main()
