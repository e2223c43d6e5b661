"""Points 2, 4 and 8: the kinds of gates and the values of nets."""

import unittest

import samples
from gatesread.errors import InvalidValues
from gatesread.gates import gate_value, input_counts, net_values, next_states, output_values

# The values of each kind, for the inputs in ascending order of the lists of bits.
TRUTH = {
    ("not", 1): [1, 0],
    ("and", 2): [0, 0, 0, 1],
    ("and", 3): [0, 0, 0, 0, 0, 0, 0, 1],
    ("or", 2): [0, 1, 1, 1],
    ("or", 3): [0, 1, 1, 1, 1, 1, 1, 1],
    ("nand", 2): [1, 1, 1, 0],
    ("nand", 3): [1, 1, 1, 1, 1, 1, 1, 0],
    ("nor", 2): [1, 0, 0, 0],
    ("nor", 3): [1, 0, 0, 0, 0, 0, 0, 0],
    ("xor", 2): [0, 1, 1, 0],
    ("mux", 3): [0, 0, 1, 1, 0, 1, 0, 1],
    ("zero", 0): [0],
    ("one", 0): [1],
}

# One gate of each kind and number of inputs, and a chain against the order of the text.
MIXED = (
    ("a", "b"),
    ("z", "a", "l", "z", "k"),
    (
        ("z", "xor", ("y", "l")),
        ("y", "mux", ("a", "x", "b")),
        ("l", "latch", ("z",)),
        ("x", "nor", ("b", "w", "l")),
        ("w", "zero", ()),
        ("k", "latch", ("a",)),
    ),
)


class KindsTest(unittest.TestCase):
    def test_input_counts(self):
        expected = {"not": (1, 1), "latch": (1, 1), "and": (2, 3), "or": (2, 3), "nand": (2, 3)}
        expected.update({"nor": (2, 3), "xor": (2, 2), "mux": (3, 3), "zero": (0, 0)})
        expected["one"] = (0, 0)
        for kind, counts in expected.items():
            with self.subTest(kind):
                self.assertEqual(input_counts(kind), counts)
                self.assertIs(type(input_counts(kind)), tuple)

    def test_gate_value(self):
        for (kind, count), values in TRUTH.items():
            for bits, value in zip(samples.bit_lists(count), values):
                with self.subTest(kind=kind, bits=bits):
                    given = list(bits)
                    self.assertEqual(gate_value(kind, given), value)
                    self.assertEqual(given, bits)


class NetValuesTest(unittest.TestCase):
    def test_each_kind_in_a_netlist(self):
        names = ("a", "b", "c")
        for (kind, count), values in TRUTH.items():
            netlist = (names[:count], ("x",), (("x", kind, names[:count]),))
            for bits, value in zip(samples.bit_lists(count), values):
                with self.subTest(kind=kind, bits=bits):
                    expected = dict(zip(names, bits))
                    expected["x"] = value
                    self.assertEqual(net_values(netlist, bits, []), expected)
                    self.assertEqual(output_values(netlist, bits, []), [value])
                    self.assertEqual(next_states(netlist, bits, []), [])

    def test_full_adder(self):
        for bits in samples.bit_lists(3):
            total = sum(bits)
            outputs = output_values(samples.FULL_ADDER, bits, [])
            self.assertEqual(outputs, [total % 2, total // 2])

    def test_gates_in_another_order_than_their_inputs(self):
        for (a, b), (l, k) in samples.all_cases(MIXED):
            x = 1 - (b | l)
            y = b if a else x
            z = y ^ l
            expected = {"a": a, "b": b, "l": l, "k": k, "w": 0, "x": x, "y": y, "z": z}
            self.assertEqual(net_values(MIXED, [a, b], [l, k]), expected)
            self.assertEqual(output_values(MIXED, [a, b], [l, k]), [z, a, l, z, k])
            self.assertEqual(next_states(MIXED, [a, b], [l, k]), [z, a])

    def test_a_long_chain_from_the_end(self):
        gates = [(f"g{k}", "not", (f"g{k + 1}",)) for k in range(39)]
        netlist = (("a",), ("g0",), tuple(gates) + (("g39", "not", ("a",)),))
        self.assertEqual(output_values(netlist, [1], []), [1])
        self.assertEqual(net_values(netlist, [0], [])["g39"], 1)

    def test_a_latch_has_its_state_as_its_value(self):
        netlist = (("a",), ("l", "x"), (("l", "latch", ("x",)), ("x", "not", ("l",))))
        self.assertEqual(net_values(netlist, [0], [1]), {"a": 0, "l": 1, "x": 0})
        self.assertEqual(output_values(netlist, [0], [0]), [0, 1])
        self.assertEqual(next_states(netlist, [0], [1]), [0])

    def test_latches_of_latches(self):
        for states in samples.bit_lists(3):
            p, q, r = states
            self.assertEqual(next_states(samples.SWAP, [], states), [q, p, r])
            self.assertEqual(output_values(samples.SWAP, [], states), [p, q, r])

    def test_next_states_of_a_counter(self):
        for states in samples.bit_lists(2):
            count = states[0] + 2 * states[1]
            for up in (0, 1):
                after = (count + up) % 4
                expected = [after % 2, after // 2]
                self.assertEqual(next_states(samples.COUNTER, [up], states), expected)


class ListsTest(unittest.TestCase):
    FUNCTIONS = (net_values, output_values, next_states)

    def test_wrong_lists(self):
        samples.check_wrong_lists(self, self.FUNCTIONS, MIXED, 2, 2)
        samples.check_wrong_lists(self, self.FUNCTIONS, samples.COUNTER, 1, 2)

    def test_lists_for_nothing(self):
        no_latch = (("a",), ("a",), ())
        no_input = ((), ("l",), (("l", "latch", ("l",)),))
        samples.check_wrong_lists(self, self.FUNCTIONS, no_latch, 1, 0)
        samples.check_wrong_lists(self, self.FUNCTIONS, no_input, 0, 1)

    def test_inputs_for_states(self):
        netlist = (("a", "b"), ("l",), (("l", "latch", ("a",)),))
        for function in self.FUNCTIONS:
            with self.subTest(function.__name__), self.assertRaises(InvalidValues):
                function(netlist, [0], [0, 1])

    def test_arguments_and_results_are_not_kept(self):
        for function in self.FUNCTIONS:
            samples.check_lists_not_kept(self, function, MIXED, [1, 0], [1, 1])


if __name__ == "__main__":
    unittest.main()
