"""Point 65: the functions of the nets of a netlist, and the difference of two netlists."""

import unittest

import samples
from gatesread.diagrams import Diagrams
from gatesread.equivalence import find_difference, net_functions
from gatesread.errors import NoSuchThing
from gatesread.gates import net_values, next_states, output_values
from gatesread.listing import list_cells
from gatesread.mapping import map_cells
from gatesread.reader import read_netlist

OTHER_KINDS = {"and": "or", "or": "nand", "nand": "nor", "nor": "and", "xor": "and", "zero": "one", "one": "zero"}


def case_bits(netlist, case):
    """The bits of the inputs and the states of the latches in a case."""
    inputs, latches = len(netlist[0]), samples.latch_count(netlist)
    bits = [case >> i & 1 for i in range(inputs + latches)]
    return bits[:inputs], bits[inputs:]


def difference_by_words(first, second):
    for case in range(2 ** (len(first[0]) + samples.latch_count(first))):
        bits = case_bits(first, case)
        ends = [(output_values(netlist, *bits), next_states(netlist, *bits)) for netlist in (first, second)]
        if ends[0] != ends[1]:
            return case
    return None


def with_one_gate_changed(netlist):
    """Netlists with another kind, or other inputs, of a single gate."""
    inputs, outputs, gates = netlist
    for k, (name, kind, sources) in enumerate(gates):
        changed = [(name, kind, sources[::-1]), (name, kind, (inputs[:1] or sources[:1]) + sources[1:])]
        if kind in OTHER_KINDS:
            changed.append((name, OTHER_KINDS[kind], sources))
        if kind == "not":
            changed.append((name, "nand", sources * 2))
        for gate in changed:
            if len(gate[2]) == len(sources) or kind == "not":
                yield inputs, outputs, gates[:k] + (gate,) + gates[k + 1:]


class NetFunctionsTest(unittest.TestCase):
    def check(self, netlist):
        with self.subTest(netlist=netlist):
            table, nodes = net_functions(netlist)
            self.assertIsInstance(table, Diagrams)
            for inputs, states in samples.all_cases(netlist):
                found = {name: table.value(node, inputs + states) for name, node in nodes.items()}
                self.assertEqual(found, net_values(netlist, inputs, states))

    def test_samples(self):
        for netlist in (samples.FULL_ADDER, samples.COUNTER, samples.SWAP):
            self.check(netlist)

    def test_each_kind(self):
        for kind, count in (("zero", 0), ("one", 0), ("not", 1), ("xor", 2), ("mux", 3), ("latch", 1)):
            names = ("a", "b", "c")
            self.check((names, ("x",), (("x", kind, names[:count]),)))
            self.check((names[::-1], ("x",), (("x", kind, names[:count]),)))
        for kind in ("and", "or", "nand", "nor"):
            for sources in (("a", "b"), ("b", "c", "a"), ("a", "a"), ("c", "a", "c")):
                self.check((("a", "b", "c"), ("x",), (("x", kind, sources),)))

    def test_arbitrary_netlists(self):
        for seed in range(60):
            self.check(samples.arbitrary_netlist(seed))

    def test_the_variables(self):
        netlist = read_netlist("in b a; l = latch x; x = nor a l; k = latch k; out x;")
        table, nodes = net_functions(netlist)
        for i, name in enumerate(("b", "a", "l", "k")):
            self.assertEqual(nodes[name], table.variable(i))
        with self.assertRaises(NoSuchThing):
            table.variable(4)

    def test_equal_nets(self):
        netlist = read_netlist("in a b; x = nand a b; y = or p q; p = not a; q = not b; z = not z1; z1 = not x;"
                               "k = xor a a; o = one; w = mux a b b; out x;")
        table, nodes = net_functions(netlist)
        self.assertEqual(nodes["x"], nodes["y"])
        self.assertEqual(nodes["x"], nodes["z"])
        self.assertEqual((nodes["k"], nodes["o"]), (0, 1))
        self.assertEqual(nodes["w"], nodes["b"])

    def test_results_are_not_kept(self):
        table, nodes = net_functions(samples.COUNTER)
        nodes.clear()
        size = table.size()
        other, numbers = net_functions(samples.COUNTER)
        self.assertEqual(sorted(numbers), sorted(net_values(samples.COUNTER, [0], [0, 0])))
        other.negate(other.size() - 1)
        self.assertEqual(table.size(), size)


class FindDifferenceTest(unittest.TestCase):
    def check(self, first, second, expected):
        with self.subTest(first=first, second=second):
            if isinstance(first, str):
                first, second = read_netlist(first), read_netlist(second)
            self.assertEqual(difference_by_words(first, second), expected)
            self.assertEqual(find_difference(first, second), expected)
            self.assertEqual(find_difference(second, first), expected)

    def test_a_netlist_and_itself(self):
        for netlist in (samples.FULL_ADDER, samples.COUNTER, samples.SWAP):
            self.check(netlist, netlist, None)

    def test_equivalent_netlists(self):
        self.check("in a b; x = nand a b; out x;", "in q p; y = or c d; c = not q; d = not p; out y;", None)
        self.check("out z; z = zero;", "out y; y = not x; x = one;", None)
        self.check("in a; out a;", "in a; b = not a; c = not b; out c;", None)
        self.check("in a; l = latch l; out a;", "in a; k = latch m; m = and k k; out a;", None)

    def test_outputs_that_differ(self):
        self.check("in a b; x = and a b; out x;", "in a b; x = or a b; out x;", 1)
        self.check("in a b; x = and a b; out x;", "in b a; x = and a b; out x;", None)
        self.check("in a b; out a;", "in b a; out a;", 1)
        self.check("in a b c; x = and a b c; out x;", "in a b c; x = zero; out x;", 7)
        self.check("in a b c; out c;", "in a b c; x = zero; out x;", 4)
        self.check("out x; x = zero;", "out x; x = one;", 0)
        self.check("in a; x = not a; out a x;", "in a; x = not a; out x a;", 0)

    def test_the_least_case(self):
        # The second output differs in cases 6 and 7, the first one in case 4.
        self.check("in a b c; x = and c b; y = and x c; out x y;",
                   "in a b c; y = zero; n = or a b; m = nand n n; p = and c m; x = or p q; q = and c b; out x y;", 4)
        self.check("in a b c; x = zero; y = and a b; out x y;", "in a b c; x = and b c; y = zero; out x y;", 3)

    def test_next_states_that_differ(self):
        self.check("in a; l = latch a; out a;", "in a; l = latch l; out a;", 1)
        self.check("in a; l = latch l; k = latch l; out a;", "in a; l = latch l; k = latch k; out a;", 2)
        # The latches are numbered in the order of the text.
        self.check("in a; l = latch a; k = latch l; out k;", "in a; k = latch l; l = latch a; out k;", 1)
        self.check("in a; l = latch a; k = latch l; out k;", "in a; p = latch a; q = latch p; out q;", None)

    def test_netlists_of_different_sizes(self):
        base = "in a b; l = latch a; out b l;"
        others = [
            "in a; l = latch a; out a l;", "in a b c; l = latch a; out b l;", "in a b; l = latch a; out b;",
            "in a b; l = latch a; out b l l;", "in a b; out a b;", "in a b; l = latch a; k = latch l; out b l;",
            # As many variables, but not as many inputs and latches.
            "in a b c; out b c;", "in a; l = latch a; k = latch a; out a l;",
        ]
        for other in others:
            for first, second in ((base, other), (other, base)):
                with self.subTest(other=other), self.assertRaises(NoSuchThing):
                    find_difference(read_netlist(first), read_netlist(second))

    def test_one_gate_changed(self):
        netlists = [samples.FULL_ADDER, samples.COUNTER] + [samples.arbitrary_netlist(k) for k in range(20)]
        found = []
        for netlist in netlists:
            for other in with_one_gate_changed(netlist):
                expected = difference_by_words(netlist, other)
                found.append(expected)
                self.check(netlist, other, expected)
        self.assertIn(None, found)
        self.assertGreater(len(set(found)), 8)

    def test_arbitrary_netlists(self):
        netlists = [samples.arbitrary_netlist(seed) for seed in range(80)]
        for first, second in zip(netlists, netlists[1:]):
            if len(first[1]) == len(second[1]):
                self.check(first, second, difference_by_words(first, second))

    def test_listings(self):
        for seed in range(80):
            netlist = samples.arbitrary_netlist(seed)
            circuit = map_cells(netlist)
            if len(circuit[3]) == 2:
                self.check(netlist, list_cells(circuit), None)

    def test_ten_variables(self):
        names = ["a", "b", "c", "d", "e", "f"]
        latches = [(name, "latch", ("x8",)) for name in ("k", "l", "m", "n")]
        row = names + [latch[0] for latch in latches]
        gates = [("x0", "and", (row[0], row[1]))]
        gates += [(f"x{k}", "and", (f"x{k - 1}", row[k + 1])) for k in range(1, 9)]
        first = (tuple(names), ("x8",), tuple(latches + gates))
        second = (tuple(names), ("x8",), tuple(latches + gates[:-1] + [("x8", "zero", ())]))
        self.check(first, second, 1023)
        third = (tuple(names), ("x8",), tuple(latches + gates[::-1]))
        self.check(first, third, None)

    def test_no_variables(self):
        self.check("out x y; x = zero; y = not x;", "out x y; x = zero; y = one;", None)
        self.check("out x y; x = zero; y = not x;", "out x y; x = zero; y = not y1; y1 = one;", 0)


if __name__ == "__main__":
    unittest.main()
