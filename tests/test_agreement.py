"""Points 8, 13 and 18: netlists, their nodes and their cells have the same values in all cases."""

import unittest
from itertools import product

import samples
from gatesread.building import build_nodes, kept_nodes
from gatesread.cellvalues import cell_values, circuit_next, circuit_outputs
from gatesread.gates import input_counts, net_values, next_states, output_values
from gatesread.listing import list_cells
from gatesread.mapping import map_cells
from gatesread.nodevalues import node_values
from gatesread.reader import find_fault, read_netlist
from gatesread.writer import write_netlist


def pairs_of_gates():
    """All netlists of two gates, the second over the first and the two inputs."""
    for first, second in product(samples.LOGIC_KINDS, repeat=2):
        sources = ("a", "b", "a")[:input_counts(first)[1]]
        for others in product(("a", "b", "x"), repeat=input_counts(second)[1]):
            gates = (("y", second, others), ("x", first, sources))
            yield ("a", "b"), ("y", "x"), gates


class AgreementTest(unittest.TestCase):
    def check(self, netlist):
        with self.subTest(netlist):
            self.assertEqual(read_netlist(write_netlist(netlist)), netlist)
            self.check_nodes(netlist)
            circuit = map_cells(netlist)
            self.check_form(circuit)
            self.check_circuit(netlist, circuit)

    def check_nodes(self, netlist):
        table, numbers = build_nodes(netlist)
        for inputs, states in samples.all_cases(netlist):
            nodes = node_values(table, inputs, states)
            expected = net_values(netlist, inputs, states)
            self.assertEqual({name: nodes[number] for name, number in numbers.items()}, expected)

    def check_form(self, circuit):
        input_count, cells, outputs, latches = circuit
        self.assertEqual(sorted(set(latches)), list(latches))
        for k, (kind, sources, output) in enumerate(cells):
            self.assertEqual(output, input_count + k)
            self.assertEqual(len(set(sources)), len(sources))
            self.assertTrue(kind == "latch" or all(net < output for net in sources))
        without_latches = [cell[:2] for cell in cells if cell[0] != "latch"]
        self.assertEqual(len(set(without_latches)), len(without_latches))

    def check_circuit(self, netlist, circuit):
        latches = circuit[3]
        listing = list_cells(circuit)
        self.assertIsNone(find_fault(write_netlist(listing)))
        names = list(listing[0]) + [gate[0] for gate in listing[2]]
        for inputs, states in samples.all_cases(netlist):
            held = [states[latch] for latch in latches]
            outputs = output_values(netlist, inputs, states)
            self.assertEqual(circuit_outputs(circuit, inputs, held), outputs)
            self.assertEqual(output_values(listing, inputs, held), outputs)
            after = next_states(netlist, inputs, states)
            after = [after[latch] for latch in latches]
            self.assertEqual(circuit_next(circuit, inputs, held), after)
            self.assertEqual(next_states(listing, inputs, held), after)
            values = net_values(listing, inputs, held)
            expected = [values[name] for name in names]
            self.assertEqual(cell_values(circuit, inputs, held), expected)

    def test_samples(self):
        for netlist in (samples.FULL_ADDER, samples.COUNTER, samples.SWAP):
            self.check(netlist)

    def test_all_pairs_of_gates(self):
        for netlist in pairs_of_gates():
            self.check(netlist)

    def test_arbitrary_netlists(self):
        for seed in range(300):
            self.check(samples.arbitrary_netlist(seed))

    def test_kept_latches_are_held(self):
        for seed in range(300):
            netlist = samples.arbitrary_netlist(seed)
            kept = [number - 4 for number in kept_nodes(netlist) if number in (4, 5)]
            self.assertEqual(list(map_cells(netlist)[3]), kept)


if __name__ == "__main__":
    unittest.main()
