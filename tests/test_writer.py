"""Point 7: the written form of a netlist."""

import unittest

import samples
from gatesread.reader import find_fault, read_netlist
from gatesread.writer import write_netlist

EVERY_KIND = (
    ("a", "b", "c"),
    ("m", "a", "m"),
    (
        ("n", "not", ("a",)),
        ("a2", "and", ("a", "b")),
        ("a3", "and", ("c", "b", "a")),
        ("o2", "or", ("b", "b")),
        ("o3", "or", ("a", "b", "c")),
        ("na", "nand", ("a", "n")),
        ("no", "nor", ("na", "b", "c")),
        ("x", "xor", ("no", "l")),
        ("m", "mux", ("a", "z", "i")),
        ("z", "zero", ()),
        ("i", "one", ()),
        ("l", "latch", ("x",)),
    ),
)


class WriterTest(unittest.TestCase):
    def test_written_form(self):
        expected = (
            "in a b c;\n"
            "n = not a;\n"
            "a2 = and a b;\n"
            "a3 = and c b a;\n"
            "o2 = or b b;\n"
            "o3 = or a b c;\n"
            "na = nand a n;\n"
            "no = nor na b c;\n"
            "x = xor no l;\n"
            "m = mux a z i;\n"
            "z = zero;\n"
            "i = one;\n"
            "l = latch x;\n"
            "out m a m;\n"
        )
        self.assertEqual(write_netlist(EVERY_KIND), expected)

    def test_without_inputs(self):
        netlist = ((), ("z",), (("z", "zero", ()),))
        self.assertEqual(write_netlist(netlist), "z = zero;\nout z;\n")

    def test_without_gates(self):
        self.assertEqual(write_netlist((("a",), ("a",), ())), "in a;\nout a;\n")

    def test_reading_gives_the_same_netlist(self):
        no_gate = (("b", "a"), ("a", "b", "a"), ())
        for netlist in (EVERY_KIND, samples.FULL_ADDER, samples.COUNTER, samples.SWAP, no_gate):
            with self.subTest(netlist):
                text = write_netlist(netlist)
                self.assertIsNone(find_fault(text))
                self.assertEqual(read_netlist(text), netlist)

    def test_of_a_text(self):
        text = " out y;in b;\ny=xor a b;in a;out b "
        written = "in b a;\ny = xor a b;\nout y b;\n"
        self.assertEqual(write_netlist(read_netlist(text + ";")), written)


if __name__ == "__main__":
    unittest.main()
