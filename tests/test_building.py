"""Points 1, 12 and 13: the nodes of a netlist, and the kept ones."""

import unittest

import samples
from gatesread.building import build_nodes, kept_nodes


def grown_nodes(netlist):
    """The nodes behind those of a new table, and the dict of the nets' nodes."""
    table, numbers = build_nodes(netlist)
    first = 2 + len(netlist[0]) + samples.latch_count(netlist)
    return [table.node(number) for number in range(first, table.size())], numbers


class BuildNodesTest(unittest.TestCase):
    def check(self, netlist, nodes, numbers):
        with self.subTest(netlist):
            self.assertEqual(grown_nodes(netlist), (nodes, numbers))

    def test_inputs_and_latches(self):
        gates = (("l", "latch", ("k",)), ("k", "latch", ("a",)))
        self.check((("a", "b"), ("a",), gates), [], {"a": 2, "b": 3, "l": 4, "k": 5})
        pair = build_nodes((("a", "b"), ("a",), gates))
        self.assertEqual([type(part) for part in (pair, pair[1])], [tuple, dict])
        table = pair[0]
        expected = [("zero",), ("one",), ("input", 0), ("input", 1), ("latch", 0), ("latch", 1)]
        self.assertEqual([table.node(number) for number in range(table.size())], expected)

    def test_each_kind(self):
        expected = {
            ("not", 1): [("not", 2)],
            ("and", 2): [("and", 2, 3)],
            ("and", 3): [("and", 2, 3, 4)],
            ("or", 2): [("or", 2, 3)],
            ("or", 3): [("or", 2, 3, 4)],
            ("nand", 2): [("and", 2, 3), ("not", 5)],
            ("nand", 3): [("and", 2, 3, 4), ("not", 5)],
            ("nor", 2): [("or", 2, 3), ("not", 5)],
            ("nor", 3): [("or", 2, 3, 4), ("not", 5)],
            ("xor", 2): [("xor", 2, 3)],
            ("mux", 3): [("mux", 2, 3, 4)],
        }
        names = ("a", "b", "c")
        for (kind, count), nodes in expected.items():
            netlist = (names, ("x",), (("x", kind, names[:count]),))
            self.check(netlist, nodes, {"a": 2, "b": 3, "c": 4, "x": 4 + len(nodes)})

    def test_order_of_the_inputs_of_a_mux(self):
        netlist = (("a", "b", "c"), ("x",), (("x", "mux", ("c", "a", "b")),))
        self.check(netlist, [("mux", 4, 2, 3)], {"a": 2, "b": 3, "c": 4, "x": 5})

    def test_zero_and_one(self):
        gates = (("z", "zero", ()), ("i", "one", ()), ("j", "one", ()), ("x", "nand", ("z", "i")))
        self.check(((), ("x",), gates), [], {"z": 0, "i": 1, "j": 1, "x": 1})

    def test_equal_gates_have_one_node(self):
        gates = (("x", "and", ("a", "b")), ("y", "and", ("b", "a")), ("z", "nand", ("a", "b")))
        numbers = {"a": 2, "b": 3, "x": 4, "y": 4, "z": 5}
        self.check((("a", "b"), ("x",), gates), [("and", 2, 3), ("not", 4)], numbers)

    def test_first_gate_whose_inputs_have_nodes(self):
        gates = (
            ("p", "not", ("r",)),
            ("q", "and", ("a", "b")),
            ("r", "or", ("a", "b")),
            ("s", "xor", ("a", "b")),
        )
        nodes = [("and", 2, 3), ("or", 2, 3), ("not", 5), ("xor", 2, 3)]
        numbers = {"a": 2, "b": 3, "p": 6, "q": 4, "r": 5, "s": 7}
        self.check((("a", "b"), ("p",), gates), nodes, numbers)

    def test_gates_in_descending_order(self):
        gates = (
            ("w", "and", ("x", "a")),
            ("x", "or", ("y", "b")),
            ("y", "xor", ("z", "a")),
            ("z", "not", ("b",)),
        )
        nodes = [("not", 3), ("xor", 2, 3), ("not", 5), ("or", 3, 6), ("and", 2, 7)]
        numbers = {"a": 2, "b": 3, "w": 8, "x": 7, "y": 6, "z": 4}
        self.check((("a", "b"), ("w",), gates), nodes, numbers)

    def test_zero_and_one_wait_for_their_turn(self):
        for kind, combined in (("zero", "or"), ("one", "and")):
            gates = (("x", combined, ("k", "a", "b")), ("y", "not", ("a",)), ("k", kind, ()))
            numbers = {"a": 2, "b": 3, "x": 5, "y": 4, "k": 0 if kind == "zero" else 1}
            self.check((("a", "b"), ("x",), gates), [("not", 2), (combined, 2, 3)], numbers)

    def test_latches_have_their_nodes_from_the_start(self):
        gates = (("x", "and", ("a", "l")), ("y", "not", ("a",)), ("l", "latch", ("y",)))
        nodes = [("and", 2, 3), ("not", 2)]
        self.check((("a",), ("x",), gates), nodes, {"a": 2, "l": 3, "x": 4, "y": 5})

    def test_gates_that_nothing_needs(self):
        gates = (("x", "not", ("a",)), ("y", "xor", ("x", "b")))
        nodes = [("not", 2), ("xor", 2, 3), ("not", 5)]
        self.check((("a", "b"), ("a",), gates), nodes, {"a": 2, "b": 3, "x": 4, "y": 6})

    def test_the_same_again(self):
        first = grown_nodes(samples.COUNTER)
        table, numbers = build_nodes(samples.COUNTER)
        table.find_not(table.find_and([2, 3, 4]))
        numbers.clear()
        kept_nodes(samples.COUNTER).clear()
        self.assertEqual(grown_nodes(samples.COUNTER), first)
        other = build_nodes(samples.COUNTER)[0]
        self.assertEqual(other.size() + 2, table.size())


class KeptNodesTest(unittest.TestCase):
    def check(self, netlist, kept):
        with self.subTest(netlist):
            self.assertEqual(kept_nodes(netlist), kept)

    def test_outputs(self):
        self.check((("a", "b", "c"), ("c", "a", "c"), ()), [2, 4])
        gates = (("z", "zero", ()), ("i", "one", ()))
        self.check((("a",), ("z",), gates), [0])
        self.check((("a",), ("i",), gates), [1])
        self.check((("a",), ("i", "a", "z"), gates), [0, 1, 2])

    def test_what_kept_nodes_need(self):
        for kind, count, kept in (("not", 1, [2, 5]), ("xor", 2, [2, 3, 5]), ("mux", 3, [2, 3, 4, 5]),
                                  ("and", 3, [2, 3, 4, 5]), ("or", 2, [2, 3, 5]),
                                  ("nand", 2, [2, 3, 5, 6]), ("nor", 3, [2, 3, 4, 5, 6])):
            names = ("a", "b", "c")
            self.check((names, ("x",), (("x", kind, names[:count]),)), kept)

    def test_what_nothing_needs(self):
        gates = (("x", "and", ("a", "b")), ("y", "not", ("a",)), ("z", "or", ("x", "c")))
        self.check((("a", "b", "c"), ("y",), gates), [2, 6])
        self.check((("a", "b", "c"), ("x",), gates), [2, 3, 5])
        self.check((("a", "b", "c"), ("z",), gates), [2, 3, 4, 5, 7])

    def test_inner_results_that_nothing_needs(self):
        netlist = (("a",), ("x",), (("z", "zero", ()), ("x", "mux", ("a", "a", "z"))))
        self.check(netlist, [0])

    def test_a_kept_latch_keeps_its_input(self):
        gates = (("l", "latch", ("x",)), ("x", "not", ("a",)), ("y", "not", ("b",)))
        self.check((("a", "b"), ("l",), gates), [2, 4, 5])

    def test_a_latch_that_no_output_needs(self):
        gates = (("l", "latch", ("x",)), ("x", "not", ("l",)), ("k", "latch", ("a",)))
        self.check((("a",), ("a",), gates), [2])
        self.check((("a",), ("k",), gates), [2, 4])
        self.check((("a",), ("l",), gates), [3, 5])

    def test_latches_that_need_each_other(self):
        self.check((samples.SWAP[0], ("q",), samples.SWAP[2]), [2, 3])
        self.check((samples.SWAP[0], ("r",), samples.SWAP[2]), [4])
        gates = (("l", "latch", ("x",)), ("x", "not", ("k",)), ("k", "latch", ("y",)),
                 ("y", "and", ("l", "a")))
        self.check((("a",), ("k",), gates), [2, 3, 4, 5, 6])

    def test_zero_and_one_as_inputs_of_latches(self):
        gates = (("l", "latch", ("z",)), ("z", "zero", ()), ("k", "latch", ("i",)), ("i", "one", ()))
        self.check(((), ("l",), gates), [0, 2])
        self.check(((), ("k",), gates), [1, 3])
        self.check(((), ("i",), gates), [1])

    def test_a_latch_whose_value_does_not_matter(self):
        gates = (("l", "latch", ("a",)), ("z", "zero", ()), ("x", "and", ("l", "z")))
        self.check((("a",), ("x",), gates), [0])

    def test_the_same_again(self):
        first = kept_nodes(samples.COUNTER)
        copy = list(first)
        first.clear()
        table, numbers = build_nodes(samples.COUNTER)
        table.find_or([2, 3, 4])
        numbers["low"] = 0
        self.assertEqual(kept_nodes(samples.COUNTER), copy)
        self.assertEqual(copy, sorted(copy))


if __name__ == "__main__":
    unittest.main()
