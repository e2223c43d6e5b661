"""Points 20 and 21: the cases of a circuit, and whether a case shows a flaw."""

import unittest
from itertools import product

import samples
from gatesread.errors import NoSuchThing
from gatesread.flaws import case_bits, shows
from gatesread.gates import next_states, output_values
from gatesread.listing import list_cells

# Each net goes elsewhere: 0 to an output, 1 to a latch, 2 (the latch) to a cell, 3 to an output.
FOUR_NETS = (2, (("latch", (1,), 2), ("not", (2,), 3)), (0, 3), (0,))


def variable_count(circuit):
    return circuit[0] + len(circuit[3])


def net_total(circuit):
    return circuit[0] + len(circuit[1])


def stuck_listing(circuit, net, value):
    """The listing of a circuit in which a constant stands wherever a net goes."""
    inputs, outputs, gates = list_cells(circuit)
    names = list(inputs) + [gate[0] for gate in gates]
    stuck = {names[net]: "stuck"}
    changed = [(name, kind, tuple(stuck.get(source, source) for source in sources))
               for name, kind, sources in gates]
    changed.append(("stuck", ("zero", "one")[value], ()))
    return inputs, tuple(stuck.get(name, name) for name in outputs), tuple(changed)


def listing_shows(circuit, flaw, case):
    """What shows is to return, found with netlists only."""
    bits = [case // 2 ** i % 2 for i in range(variable_count(circuit))]
    inputs, states = bits[:circuit[0]], bits[circuit[0]:]
    right = list_cells(circuit)
    wrong = stuck_listing(circuit, *flaw)
    return any(function(right, inputs, states) != function(wrong, inputs, states)
               for function in (output_values, next_states))


class CaseBitsTest(unittest.TestCase):
    def test_weights(self):
        self.assertEqual(case_bits(samples.LATCHES, 0), ([0], [0, 0, 0, 0]))
        self.assertEqual(case_bits(samples.LATCHES, 1), ([1], [0, 0, 0, 0]))
        self.assertEqual(case_bits(samples.LATCHES, 2), ([0], [1, 0, 0, 0]))
        self.assertEqual(case_bits(samples.LATCHES, 22), ([0], [1, 1, 0, 1]))
        self.assertEqual(case_bits(samples.LATCHES, 31), ([1], [1, 1, 1, 1]))
        self.assertEqual(case_bits(samples.EACH_KIND, 6), ([0, 1, 1], []))
        self.assertEqual(case_bits(samples.LOOSE, 9), ([1, 0], [0, 1]))

    def test_without_inputs(self):
        self.assertEqual(case_bits(samples.NO_INPUTS, 1), ([], [1]))
        self.assertEqual(case_bits((0, (("tie0", (), 0),), (0,), ()), 0), ([], []))

    def test_as_many_as_allowed(self):
        latches = tuple(("latch", (0,), 6 + k) for k in range(4))
        circuit = (6, latches, (6,), (3, 2, 1, 0))
        self.assertEqual(case_bits(circuit, 1023), ([1] * 6, [1] * 4))
        self.assertEqual(case_bits(circuit, 512 + 64 + 4), ([0, 0, 1, 0, 0, 0], [1, 0, 0, 1]))

    def test_no_such_case(self):
        for circuit in samples.PLACED_CIRCUITS:
            for case in (-1, 2 ** variable_count(circuit), 1024):
                with self.assertRaises(NoSuchThing):
                    case_bits(circuit, case)

    def test_new_lists(self):
        for bits in case_bits(samples.LOOSE, 5):
            bits.append(1)
        self.assertEqual(case_bits(samples.LOOSE, 5), ([1, 0], [1, 0]))


class ShowsTest(unittest.TestCase):
    def check_shown(self, circuit, flaw, shown):
        """Check in which cases a flaw is shown."""
        with self.subTest(circuit=circuit, flaw=flaw):
            cases = range(2 ** variable_count(circuit))
            self.assertEqual([case for case in cases if shows(circuit, flaw, case)], shown)

    def test_an_input_that_is_an_output(self):
        self.check_shown(FOUR_NETS, (0, 0), [1, 3, 5, 7])
        self.check_shown(FOUR_NETS, (0, 1), [0, 2, 4, 6])

    def test_the_input_of_a_latch(self):
        self.check_shown(FOUR_NETS, (1, 0), [2, 3, 6, 7])
        self.check_shown(FOUR_NETS, (1, 1), [0, 1, 4, 5])

    def test_the_output_of_a_latch(self):
        self.check_shown(FOUR_NETS, (2, 0), [4, 5, 6, 7])
        self.check_shown(FOUR_NETS, (2, 1), [0, 1, 2, 3])
        self.check_shown((0, (("latch", (0,), 0),), (0,), (0,)), (0, 1), [0])

    def test_a_latch_that_only_itself_needs(self):
        circuit = (1, (("latch", (1,), 1),), (0,), (0,))
        self.check_shown(circuit, (1, 1), [0, 1])
        self.check_shown(circuit, (1, 0), [2, 3])

    def test_the_output_of_a_cell(self):
        self.check_shown(FOUR_NETS, (3, 0), [0, 1, 2, 3])
        self.check_shown(FOUR_NETS, (3, 1), [4, 5, 6, 7])

    def test_a_net_that_changes_and_is_not_seen(self):
        circuit = (2, (("nand2", (0, 1), 2),), (2,), ())
        self.check_shown(circuit, (0, 0), [3])
        self.check_shown(circuit, (0, 1), [2])
        self.check_shown(circuit, (1, 1), [1])
        self.check_shown(circuit, (2, 0), [0, 1, 2])

    def test_hidden(self):
        self.check_shown((1, (("not", (0,), 1),), (0,), ()), (1, 0), [])
        self.check_shown((0, (("tie1", (), 0),), (0,), ()), (0, 1), [])

    def test_results_are_truth_values(self):
        self.assertIs(shows(FOUR_NETS, (0, 0), 1), True)
        self.assertIs(shows(FOUR_NETS, (0, 0), 0), False)

    def test_all_cases(self):
        circuits = list(samples.PLACED_CIRCUITS) + [FOUR_NETS]
        circuits += [samples.arbitrary_circuit(seed, 3, 8, seed % 3) for seed in range(20)]
        for circuit in circuits:
            cases = range(2 ** variable_count(circuit))
            for flaw in product(range(net_total(circuit)), (0, 1)):
                shown = [case for case in cases if listing_shows(circuit, flaw, case)]
                self.check_shown(circuit, flaw, shown)


class WrongFlawTest(unittest.TestCase):
    def test_no_such_thing(self):
        for circuit in samples.PLACED_CIRCUITS:
            nets, cases = net_total(circuit), 2 ** variable_count(circuit)
            wrong = [((-1, 0), 0), ((nets, 1), 0), ((0, 2), 0), ((0, -1), 0), ((0, 0), -1)]
            wrong += [((0, 1), cases), ((nets - 1, 2), cases - 1), ((nets + 5, 7), cases)]
            for flaw, case in wrong:
                with self.subTest(circuit=circuit, flaw=flaw, case=case):
                    with self.assertRaises(NoSuchThing):
                        shows(circuit, flaw, case)


if __name__ == "__main__":
    unittest.main()
