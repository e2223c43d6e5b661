"""Points 14 to 17: the cells of a netlist, to the letter."""

import unittest

import samples
from gatesread.errors import TooLarge
from gatesread.mapping import map_cells
from gatesread.reader import read_netlist

# Two nodes with one net, that of cell 3: e spells out the cells of the xor m.
XOR_TWICE = """
in a b c;
m = xor a b;
k = not c;
n = nand a b;
p = nand a n;
q = nand b n;
e = nand p q;
"""
XOR_CELLS = (
    ("nand2", (0, 1), 3),
    ("nand2", (0, 3), 4),
    ("nand2", (1, 3), 5),
    ("nand2", (4, 5), 6),
)
MUX_TWICE = """
in s a b;
m = mux s a b;
p = nand s b;
t = not s;
q = nand a t;
e = nand p q;
"""
MUX_CELLS = (
    ("not", (0,), 3),
    ("nand2", (0, 2), 4),
    ("nand2", (3, 1), 5),
    ("nand2", (4, 5), 6),
)


def xor_chain(count, more):
    """A netlist of some xors, of which each needs four cells of its own, and more gates."""
    text = "in a b c; x0 = xor a b;"
    for k in range(1, count):
        text += f"x{k} = xor x{k - 1} c;" if k % 2 else f"x{k} = xor x{k - 1} a;"
    return read_netlist(text + more)


class MappingCase(unittest.TestCase):
    def check(self, text, circuit):
        with self.subTest(text):
            self.assertEqual(map_cells(read_netlist(text)), circuit)


class NodeCellsTest(MappingCase):
    def test_no_cells(self):
        self.check("in a b; out b a b;", (2, (), (1, 0, 1), ()))

    def test_zero_and_one(self):
        self.check("z = zero; out z;", (0, (("tie0", (), 0),), (0,), ()))
        self.check("in a; i = one; out i;", (1, (("tie1", (), 1),), (1,), ()))
        cells = (("tie0", (), 1), ("tie1", (), 2))
        self.check("in a; i = one; z = zero; out i z;", (1, cells, (2, 1), ()))

    def test_not(self):
        self.check("in a b; x = not b; out x;", (2, (("not", (1,), 2),), (2,), ()))

    def test_and(self):
        cells = (("nand2", (0, 1), 2), ("not", (2,), 3))
        self.check("in a b; x = and b a; out x;", (2, cells, (3,), ()))
        cells = (("nand3", (0, 1, 2), 3), ("not", (3,), 4))
        self.check("in a b c; x = and c a b; out x;", (3, cells, (4,), ()))

    def test_or(self):
        cells = (("nor2", (0, 1), 2), ("not", (2,), 3))
        self.check("in a b; x = or b a; out x;", (2, cells, (3,), ()))
        cells = (("nor3", (0, 1, 2), 3), ("not", (3,), 4))
        self.check("in a b c; x = or c a b; out x;", (3, cells, (4,), ()))

    def test_nand_and_nor(self):
        self.check("in a b; x = nand a b; out x;", (2, (("nand2", (0, 1), 2),), (2,), ()))
        self.check("in a b c; x = nor a b c; out x;", (3, (("nor3", (0, 1, 2), 3),), (3,), ()))

    def test_xor(self):
        cells = (
            ("nand2", (0, 1), 2),
            ("nand2", (0, 2), 3),
            ("nand2", (1, 2), 4),
            ("nand2", (3, 4), 5),
        )
        self.check("in a b; x = xor b a; out x;", (2, cells, (5,), ()))

    def test_mux(self):
        cells = (
            ("not", (0,), 3),
            ("nand2", (0, 2), 4),
            ("nand2", (3, 1), 5),
            ("nand2", (4, 5), 6),
        )
        self.check("in s a b; x = mux s a b; out x;", (3, cells, (6,), ()))
        cells = (
            ("not", (2,), 3),
            ("nand2", (2, 1), 4),
            ("nand2", (3, 0), 5),
            ("nand2", (4, 5), 6),
        )
        self.check("in a b s; x = mux s a b; out x;", (3, cells, (6,), ()))

    def test_nodes_in_ascending_order(self):
        cells = (
            ("nor2", (0, 1), 2),
            ("not", (2,), 3),
            ("not", (0,), 4),
            ("nand2", (3, 4), 5),
            ("not", (5,), 6),
        )
        text = "in a b; x = and z y; y = or a b; z = not a; out z y x;"
        self.check(text, (2, cells, (4, 3, 6), ()))


class LatchCellsTest(MappingCase):
    def test_a_latch_of_an_input(self):
        cells = (("latch", (0,), 1),)
        self.check("in a; l = latch a; out l;", (1, cells, (1,), (0,)))

    def test_a_latch_of_itself(self):
        self.check("l = latch l; out l;", (0, (("latch", (0,), 0),), (0,), (0,)))

    def test_latches_of_each_other(self):
        cells = (("latch", (1,), 0), ("latch", (0,), 1), ("latch", (2,), 2))
        self.check("p = latch q; q = latch p; r = latch r; out p q r;", (0, cells, (0, 1, 2), (0, 1, 2)))

    def test_a_latch_of_a_later_cell(self):
        cells = (("latch", (3,), 1), ("nor2", (0, 1), 2), ("not", (2,), 3))
        self.check("in a; x = or a l; out l; l = latch x;", (1, cells, (1,), (0,)))

    def test_latches_with_equal_inputs_stay_two(self):
        cells = (("latch", (0,), 1), ("latch", (0,), 2))
        self.check("in a; l = latch a; k = latch a; out k l;", (1, cells, (2, 1), (0, 1)))

    def test_ties_ahead_of_latches(self):
        cells = (("tie0", (), 1), ("tie1", (), 2), ("latch", (2,), 3), ("latch", (1,), 4),
                 ("not", (0,), 5))
        text = "in a; x = not a; l = latch i; k = latch z; i = one; z = zero; out x l k;"
        self.check(text, (1, cells, (5, 3, 4), (0, 1)))

    def test_latches_that_no_output_needs(self):
        text = "in a; p = latch a; q = latch p; r = latch a; s = latch q; "
        self.check(text + "out q;", (1, (("latch", (0,), 1), ("latch", (1,), 2)), (2,), (0, 1)))
        self.check(text + "out r;", (1, (("latch", (0,), 1),), (1,), (2,)))
        cells = (("latch", (0,), 1), ("latch", (1,), 2), ("latch", (2,), 3))
        self.check(text + "out s;", (1, cells, (3,), (0, 1, 3)))
        self.check(text + "out a;", (1, (), (0,), ()))

    def test_counter(self):
        cells = (
            ("latch", (11,), 1),
            ("latch", (8,), 2),
            ("nand2", (0, 1), 3),
            ("not", (3,), 4),
            ("nand2", (2, 4), 5),
            ("nand2", (2, 5), 6),
            ("nand2", (4, 5), 7),
            ("nand2", (6, 7), 8),
            ("nand2", (0, 3), 9),
            ("nand2", (1, 3), 10),
            ("nand2", (9, 10), 11),
        )
        self.assertEqual(map_cells(samples.COUNTER), (1, cells, (1, 2), (0, 1)))


class EqualInputsTest(MappingCase):
    """The first rule of point 16."""

    def check_xor(self, more, cells, outputs):
        self.check(XOR_TWICE + more, (3, XOR_CELLS + cells, outputs, ()))

    def test_two_nodes_with_one_net(self):
        self.check_xor("out m e;", (), (6, 6))

    def test_three_inputs_of_two_nets(self):
        cells = (("nand2", (2, 6), 7), ("not", (7,), 8))
        self.check_xor("x = and m e c; out x;", cells, (8,))
        self.check_xor("x = nand e c m; out x;", cells[:1], (7,))
        cells = (("nor2", (2, 6), 7), ("not", (7,), 8))
        self.check_xor("x = or m c e; out x;", cells, (8,))
        self.check_xor("x = nor e m c; out x;", cells[:1], (7,))

    def test_the_first_of_equal_inputs_stays(self):
        cells = (("not", (2,), 7), ("nand2", (6, 7), 8))
        self.check_xor("x = nand m k e; out x;", cells, (8,))
        cells = (("not", (2,), 7), ("nor2", (6, 7), 8))
        self.check_xor("x = nor m k e; out x;", cells, (8,))

    def test_two_inputs_of_one_net(self):
        cells = (("not", (6,), 7),)
        self.check_xor("x = nand m e; out x;", cells, (7,))
        self.check_xor("x = nor m e; out x;", cells, (7,))
        self.check_xor("x = and m e; out x;", (), (6,))
        self.check_xor("x = or m e; out x;", (), (6,))

    def test_three_inputs_of_one_net(self):
        cells = (("not", (6,), 7),)
        self.check_xor("g = and m e; x = nand m e g; out x;", cells, (7,))
        self.check_xor("g = or m e; x = nor m e g; out x;", cells, (7,))

    def test_xor_of_one_net(self):
        cells = (("not", (6,), 7), ("nand2", (6, 7), 8), ("not", (8,), 9))
        self.check_xor("g = and m e; x = xor m g; out x;", cells, (9,))

    def test_mux_of_one_net(self):
        cells = (("not", (6,), 7), ("nand2", (7, 0), 8), ("nand2", (7, 8), 9))
        self.check_xor("x = mux m a e; out x;", cells, (9,))
        cells = (("not", (2,), 7), ("nand2", (2, 6), 8), ("nand2", (7, 6), 9), ("nand2", (8, 9), 10))
        self.check_xor("x = mux c m e; out x;", cells, (10,))

    def test_one_net_that_is_the_output_of_a_not(self):
        text = "g = and m c; h = and e c;"
        cells = (("nand2", (2, 6), 7), ("not", (7,), 8))
        self.check_xor(text + "x = nand g h; out x;", cells[:1], (7,))
        self.check_xor(text + "x = nor g h; out x;", cells[:1], (7,))
        self.check_xor(text + "x = and g h; out x;", cells, (8,))
        self.check_xor(text + "x = or g h; out x;", cells, (8,))


class NotOfNotTest(MappingCase):
    """The second rule of point 16."""

    def test_nand_and_nor(self):
        self.check("in a b; x = nand a b; y = and a b; out x y;",
                   (2, (("nand2", (0, 1), 2), ("not", (2,), 3)), (2, 3), ()))
        self.check("in a b; x = nor a b; y = or a b; out y x;",
                   (2, (("nor2", (0, 1), 2), ("not", (2,), 3)), (3, 2), ()))

    def test_mux_chosen_by_an_and(self):
        cells = (
            ("nand2", (0, 1), 2),
            ("not", (2,), 3),
            ("nand2", (3, 1), 4),
            ("nand2", (2, 0), 5),
            ("nand2", (4, 5), 6),
        )
        self.check("in a b; s = and a b; x = mux s a b; out x;", (2, cells, (6,), ()))

    def test_not_of_other_cells_makes_a_cell(self):
        cells = (("latch", (0,), 1), ("not", (1,), 2))
        self.check("in a; l = latch a; x = not l; out x;", (1, cells, (2,), (0,)))
        cells = XOR_CELLS + (("not", (6,), 7),)
        self.check(XOR_TWICE + "x = not m; out x;", (3, cells, (7,), ()))

    def test_not_of_a_latch_of_a_not(self):
        cells = (("latch", (2,), 1), ("not", (0,), 2), ("not", (1,), 3))
        self.check("in a; n = not a; l = latch n; x = not l; out x;", (1, cells, (3,), (0,)))


class EqualCellsTest(MappingCase):
    """The third rule of point 16."""

    def test_and_beside_xor(self):
        cells = (
            ("nand2", (0, 1), 2),
            ("not", (2,), 3),
            ("nand2", (0, 2), 4),
            ("nand2", (1, 2), 5),
            ("nand2", (4, 5), 6),
        )
        self.check("in a b; x = and a b; y = xor a b; out x y;", (2, cells, (3, 6), ()))

    def test_muxes_beside_a_not(self):
        cells = (
            ("not", (0,), 4),
            ("nand2", (0, 2), 5),
            ("nand2", (4, 1), 6),
            ("nand2", (5, 6), 7),
            ("nand2", (0, 3), 8),
            ("nand2", (8, 6), 9),
        )
        text = "in s a b c; t = not s; x = mux s a b; y = mux s a c; out x y t;"
        self.check(text, (4, cells, (7, 9, 4), ()))

    def test_inputs_in_another_order(self):
        cells = MUX_CELLS + (("nand2", (1, 3), 7), ("nand2", (4, 7), 8))
        self.check(MUX_TWICE + "out m e;", (3, cells, (6, 8), ()))

    def test_another_kind(self):
        cells = (("nand2", (0, 1), 2), ("nor2", (0, 1), 3))
        self.check("in a b; x = nand a b; y = nor a b; out x y;", (2, cells, (2, 3), ()))
        cells = (("nand2", (0, 1), 3), ("nand3", (0, 1, 2), 4))
        self.check("in a b c; x = nand a b; y = nand a b c; out x y;", (3, cells, (3, 4), ()))

    def test_a_latch_is_no_not(self):
        cells = (("latch", (0,), 1), ("not", (0,), 2))
        self.check("in a; l = latch a; x = not a; out l x;", (1, cells, (1, 2), (0,)))


class NeededCellsTest(MappingCase):
    def test_cells_behind_one_that_is_left_out(self):
        cells = (("nand2", (0, 1), 3), ("not", (2,), 4), ("nor2", (3, 4), 5))
        text = "in a b c; x = nand a b; y = not c; z = nor x y; out z y;"
        self.check(text, (3, cells, (5, 4), ()))

    def test_gates_that_nothing_needs(self):
        cells = (("nor2", (0, 1), 2),)
        text = "in a b; x = nand a b; y = xor a x; z = nor a b; l = latch y; out z;"
        self.check(text, (2, cells, (2,), ()))

    def test_inputs_that_nothing_needs(self):
        self.check("in a b c; x = not b; out x;", (3, (("not", (1,), 3),), (3,), ()))
        self.check("in a b c; z = zero; out z;", (3, (("tie0", (), 3),), (3,), ()))

    def test_cells_that_only_a_latch_needs(self):
        cells = (("latch", (3,), 2), ("nor2", (0, 1), 3))
        self.check("in a b; l = latch x; x = nor a b; out l;", (2, cells, (2,), (0,)))

    def test_the_same_again(self):
        self.assertEqual(map_cells(samples.COUNTER), map_cells(samples.COUNTER))
        self.assertEqual(map_cells(samples.FULL_ADDER), map_cells(samples.FULL_ADDER))


class TooLargeTest(unittest.TestCase):
    def check_large(self, netlist):
        with self.assertRaises(TooLarge):
            map_cells(netlist)

    def check_forty(self, netlist):
        self.assertEqual(len(map_cells(netlist)[1]), 40)

    def test_xors(self):
        self.check_forty(xor_chain(10, "out x9;"))
        self.check_large(xor_chain(11, "out x10;"))

    def test_one_more(self):
        self.check_large(xor_chain(10, "y = not x9; out y;"))
        self.check_large(xor_chain(10, "y = nand a c; out x9 y;"))
        self.check_large(xor_chain(10, "z = zero; out x9 z;"))
        self.check_large(xor_chain(10, "z = one; out x9 z;"))
        self.check_large(xor_chain(10, "l = latch x9; out l;"))
        self.check_large(xor_chain(10, "l = latch a; out x9 l;"))

    def test_one_more_that_nothing_needs(self):
        self.check_forty(xor_chain(10, "y = not x9; z = zero; l = latch y; out x9;"))
        self.check_forty(xor_chain(12, "out x9;"))

    def test_one_more_that_is_shared(self):
        self.check_forty(xor_chain(10, "y = nand a b; out x9 y;"))

    def test_cells_that_are_made_and_not_needed(self):
        nands = "p = nand a c; q = nand b c; r = nand a b c; s = nand p q;"
        self.check_forty(xor_chain(9, nands + "out x8 p q r s;"))
        self.check_large(xor_chain(9, nands + "t = nor a b; out x8 p q r s t;"))

    def test_latches_among_forty(self):
        latches = "k = latch l; l = latch m; m = latch n; n = latch x8;"
        circuit = map_cells(xor_chain(9, latches + "out k;"))
        self.assertEqual((len(circuit[1]), circuit[3]), (40, (0, 1, 2, 3)))

    def test_as_many_gates_as_allowed(self):
        self.check_large(xor_chain(40, "out x39;"))
        self.assertEqual(len(map_cells(xor_chain(40, "out x4;"))[1]), 20)


if __name__ == "__main__":
    unittest.main()
