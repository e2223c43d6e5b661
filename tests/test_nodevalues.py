"""Points 1, 2 and 13: the values of nodes."""

import unittest

import samples
from gatesread.building import build_nodes
from gatesread.errors import InvalidValues
from gatesread.nodetable import NodeTable
from gatesread.nodevalues import node_values


class NodeValuesTest(unittest.TestCase):
    def test_a_new_table(self):
        self.assertEqual(node_values(NodeTable(0, 0), [], []), [0, 1])
        for inputs in samples.bit_lists(3):
            for states in samples.bit_lists(2):
                values = node_values(NodeTable(3, 2), inputs, states)
                self.assertEqual(values, [0, 1] + inputs + states)

    def test_each_kind(self):
        table = NodeTable(2, 1)
        self.assertEqual(table.find_not(4), 5)
        self.assertEqual(table.find_and([2, 3]), 6)
        self.assertEqual(table.find_and([2, 3, 5]), 7)
        self.assertEqual(table.find_or([2, 3]), 8)
        self.assertEqual(table.find_or([2, 3, 4]), 9)
        self.assertEqual(table.find_xor(2, 4), 10)
        self.assertEqual(table.find_mux(4, 2, 3), 11)
        self.assertEqual(table.find_mux(2, 8, 7), 12)
        for a, b in samples.bit_lists(2):
            for l in (0, 1):
                low = a & b & (1 - l)
                expected = [0, 1, a, b, l, 1 - l, a & b, low, a | b, a | b | l, a ^ l]
                expected += [b if l else a, low if a else a | b]
                self.assertEqual(node_values(table, [a, b], [l]), expected)

    def test_a_table_that_grows(self):
        table = NodeTable(1, 0)
        self.assertEqual(node_values(table, [1], []), [0, 1, 1])
        table.find_not(2)
        self.assertEqual(node_values(table, [1], []), [0, 1, 1, 0])

    def test_wrong_lists(self):
        for inputs, latches in ((2, 2), (6, 4), (2, 1), (1, 2), (0, 1), (1, 0), (0, 0)):
            table = NodeTable(inputs, latches)
            samples.check_wrong_lists(self, [node_values], table, inputs, latches)

    def test_inputs_for_states(self):
        with self.assertRaises(InvalidValues):
            node_values(NodeTable(2, 1), [0], [0, 0])

    def test_arguments_and_results_are_not_kept(self):
        table = build_nodes(samples.COUNTER)[0]
        samples.check_lists_not_kept(self, node_values, table, [1], [1, 0])


if __name__ == "__main__":
    unittest.main()
