"""Points 1, 2, 14 and 18: the values of any circuit, also of one that no netlist gives."""

import unittest

import samples
from gatesread.cellvalues import cell_values, circuit_next, circuit_outputs


def each_kind_values(a, b, c):
    nand = 1 - (c & a)
    nor = 1 - (nand | b | a)
    last = 1 - ((1 - nor) & b)
    return [a, b, c, 1, nand, nor, 1 - nor, 0, last, 1 - last]


def latches_values(a, states):
    p, q, r, s = states
    nand = 1 - (p & (1 - a))
    return [a, 1 - a, p, nand, q, 1 - (q | nand), r, s]


def loose_values(a, b, states):
    nand = 1 - (a & b)
    return [a, b, nand, nand, nand, 1 - nand, nand, 0, 0] + states + [1 - states[1]]


class CellValuesTest(unittest.TestCase):
    def check(self, circuit, inputs, states, values, after):
        with self.subTest(circuit=circuit, inputs=inputs, states=states):
            self.assertEqual(cell_values(circuit, inputs, states), values)
            outputs = [values[net] for net in circuit[2]]
            self.assertEqual(circuit_outputs(circuit, inputs, states), outputs)
            self.assertEqual(circuit_next(circuit, inputs, states), after)

    def test_each_kind(self):
        for bits in samples.bit_lists(3):
            self.check(samples.EACH_KIND, bits, [], each_kind_values(*bits), [])

    def test_latches(self):
        for bits in samples.bit_lists(1):
            for states in samples.bit_lists(4):
                values = latches_values(bits[0], states)
                after = [values[5], values[4], values[0], values[2]]
                self.check(samples.LATCHES, bits, states, values, after)

    def test_equal_and_loose_cells(self):
        for bits in samples.bit_lists(2):
            for states in samples.bit_lists(2):
                values = loose_values(*bits, states)
                self.check(samples.LOOSE, bits, states, values, [values[6], values[6]])

    def test_without_cells(self):
        self.check((2, (), (1, 0, 1), ()), [0, 1], [], [0, 1], [])

    def test_without_inputs(self):
        self.check((0, (("tie1", (), 0),), (0,), ()), [], [], [1], [])
        for state in (0, 1):
            circuit = (0, (("latch", (0,), 0),), (0, 0), (3,))
            self.check(circuit, [], [state], [state], [state])

    def test_latches_in_a_ring(self):
        circuit = (0, (("latch", (1,), 0), ("latch", (2,), 1), ("latch", (0,), 2)), (0,), (0, 1, 2))
        for states in samples.bit_lists(3):
            self.check(circuit, [], states, states, states[1:] + states[:1])

    def test_forty_cells(self):
        cells = tuple(("not", (net,), net + 1) for net in range(40))
        values = [net % 2 for net in range(41)]
        self.check((1, cells, (40, 39), ()), [0], [], values, [])


class ListsTest(unittest.TestCase):
    FUNCTIONS = (cell_values, circuit_outputs, circuit_next)

    def test_wrong_lists(self):
        samples.check_wrong_lists(self, self.FUNCTIONS, samples.LOOSE, 2, 2)
        samples.check_wrong_lists(self, self.FUNCTIONS, samples.LATCHES, 1, 4)

    def test_lists_for_nothing(self):
        samples.check_wrong_lists(self, self.FUNCTIONS, (1, (("not", (0,), 1),), (1,), ()), 1, 0)
        samples.check_wrong_lists(self, self.FUNCTIONS, (2, (), (1,), ()), 2, 0)
        # The netlist may have more latches than the circuit holds.
        one_latch = (0, (("latch", (0,), 0),), (0,), (3,))
        samples.check_wrong_lists(self, self.FUNCTIONS, one_latch, 0, 1)

    def test_arguments_and_results_are_not_kept(self):
        for function in self.FUNCTIONS:
            samples.check_lists_not_kept(self, function, samples.LOOSE, [1, 0], [1, 0])


if __name__ == "__main__":
    unittest.main()
