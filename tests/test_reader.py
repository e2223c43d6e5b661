"""Points 4 to 6: netlists that can be read, as tuples."""

import unittest

from gatesread.reader import find_fault, read_netlist


def many_inputs(count):
    """A text with some inputs, all in one statement."""
    return "in " + " ".join(f"i{k}" for k in range(count)) + "; out i0;"


class ReadNetlistTest(unittest.TestCase):
    def check(self, text, netlist):
        with self.subTest(text):
            self.assertIsNone(find_fault(text))
            self.assertEqual(read_netlist(text), netlist)

    def check_good(self, text):
        with self.subTest(text):
            self.assertIsNone(find_fault(text))

    def test_ordinary(self):
        text = "in a b;\nx = and a b;\ny = not x;\nout y x;\n"
        gates = (("x", "and", ("a", "b")), ("y", "not", ("x",)))
        self.check(text, (("a", "b"), ("y", "x"), gates))

    def test_tuples_all_the_way(self):
        inputs, outputs, gates = read_netlist("in a; out x; x = or a a;")
        kinds = [type(part) for part in (inputs, outputs, gates, gates[0], gates[0][2])]
        self.assertEqual(kinds, [tuple] * 5)

    def test_least_netlists(self):
        self.check("in a; out a;", (("a",), ("a",), ()))
        self.check("out a; a = one;", ((), ("a",), (("a", "one", ()),)))
        self.check("a = latch a; out a;", ((), ("a",), (("a", "latch", ("a",)),)))

    def test_spaces_and_newlines_mean_nothing(self):
        netlist = (("a",), ("b",), (("b", "not", ("a",)),))
        self.check("in a;b=not a;out b;", netlist)
        self.check("in\n\na ;\n b\n= not\na\n; out b ;  \n\n", netlist)

    def test_statements_in_any_order(self):
        text = "out x; in b; x = nor a b; out a x; in a; y = zero; out y;"
        gates = (("x", "nor", ("a", "b")), ("y", "zero", ()))
        self.check(text, (("b", "a"), ("x", "a", "x", "y"), gates))

    def test_a_net_may_be_an_output_several_times(self):
        self.check("in a; out a a a; out a a a;", (("a",), ("a",) * 6, ()))

    def test_an_input_of_a_gate_several_times(self):
        gates = (("x", "nand", ("a", "a", "a")), ("y", "mux", ("a", "a", "a")))
        self.check("in a; x = nand a a a; y = mux a a a; out x;", (("a",), ("x",), gates))

    def test_names_before_their_declaration(self):
        text = "out y; y = and x a; x = not l; l = latch y; in a;"
        gates = (("y", "and", ("x", "a")), ("x", "not", ("l",)), ("l", "latch", ("y",)))
        self.check(text, (("a",), ("y",), gates))

    def test_names_that_begin_with_a_reserved_word(self):
        words = "in out not and or nand nor xor mux zero one latch".split()
        for word in words:
            for name in (word + "s", word + "1", "y" + word):
                self.check(f"in {name}; out {name};", ((name,), (name,), ()))
                gates = ((name, "zero", ()), ("g", "not", (name,)))
                text = f"{name} = zero; g = not {name}; out {name};"
                self.check(text, ((), (name,), gates))

    def test_words_of_eight_characters(self):
        gates = (("abcdefgh", "not", ("z2345678",)),)
        text = "in z2345678; abcdefgh = not z2345678; out abcdefgh;"
        self.check(text, (("z2345678",), ("abcdefgh",), gates))

    def test_each_kind_with_each_number_of_inputs(self):
        counts = {"not": (1,), "latch": (1,), "and": (2, 3), "or": (2, 3), "nand": (2, 3)}
        counts.update({"nor": (2, 3), "xor": (2,), "mux": (3,), "zero": (0,), "one": (0,)})
        for kind, allowed in counts.items():
            for count in allowed:
                sources = ("a", "b", "c")[:count]
                text = "in a b c; x = " + " ".join((kind,) + sources) + "; out x;"
                self.check(text, (("a", "b", "c"), ("x",), (("x", kind, sources),)))

    def test_latches_in_a_ring(self):
        self.check_good("l = latch l; out l;")
        self.check_good("p = latch q; q = latch p; out p;")
        self.check_good("x = not l; l = latch y; y = nor x l; out x;")

    def test_as_many_inputs_as_allowed(self):
        self.check_good(many_inputs(6))
        self.check_good("in a; in b c; in d; in e f; out a;")

    def test_as_many_outputs_as_allowed(self):
        self.check_good("in a b c; out a b c a b c;")
        self.check_good("in a; out a; out a a; out a; out a a;")

    def test_as_many_gates_as_allowed(self):
        zeros = "".join(f"g{k} = zero;" for k in range(36))
        latches = "".join(f"l{k} = latch g{k};" for k in range(4))
        self.check_good(zeros + latches + "out l3;")
        self.check_good(latches + "out g0; in a b c d e f;" + zeros)

    def test_the_words_of_a_statement_again_in_the_next(self):
        self.check("in a; x = not a; out x; in b;", (("a", "b"), ("x",), (("x", "not", ("a",)),)))
        netlist = (("a",), ("x", "y"), (("x", "not", ("a",)), ("y", "not", ("a",))))
        self.check("in a; x = not a; out x; y = not a; out y;", netlist)


if __name__ == "__main__":
    unittest.main()
