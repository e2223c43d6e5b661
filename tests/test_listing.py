"""Point 19: the listing of a circuit."""

import unittest

import samples
from gatesread.cellvalues import cell_values
from gatesread.gates import net_values
from gatesread.listing import list_cells
from gatesread.reader import find_fault, read_netlist
from gatesread.writer import write_netlist

EMPTY = (6, (), (5, 0, 5), ())
FORTY = (0, (("tie0", (), 0),) + tuple(("not", (k,), k + 1) for k in range(39)), (39, 0), ())


class ListingTest(unittest.TestCase):
    def test_each_kind(self):
        gates = (
            ("c0", "one", ()),
            ("c1", "nand", ("i2", "i0")),
            ("c2", "nor", ("c1", "i1", "i0")),
            ("c3", "not", ("c2",)),
            ("c4", "zero", ()),
            ("c5", "nand", ("c3", "c0", "i1")),
            ("c6", "nor", ("c4", "c5")),
        )
        expected = (("i0", "i1", "i2"), ("c6", "i0", "c2", "c6"), gates)
        self.assertEqual(list_cells(samples.EACH_KIND), expected)

    def test_latches(self):
        gates = (
            ("c0", "not", ("i0",)),
            ("c1", "latch", ("c4",)),
            ("c2", "nand", ("c1", "c0")),
            ("c3", "latch", ("c3",)),
            ("c4", "nor", ("c3", "c2")),
            ("c5", "latch", ("i0",)),
            ("c6", "latch", ("c1",)),
        )
        self.assertEqual(list_cells(samples.LATCHES), (("i0",), ("c4", "c5"), gates))

    def test_without_cells(self):
        names = ("i0", "i1", "i2", "i3", "i4", "i5")
        self.assertEqual(list_cells(EMPTY), (names, ("i5", "i0", "i5"), ()))

    def test_without_inputs(self):
        listing = list_cells(FORTY)
        self.assertEqual(listing[:2], ((), ("c39", "c0")))
        self.assertEqual(listing[2][39], ("c39", "not", ("c38",)))

    def test_reading_the_written_form_gives_it_back(self):
        for circuit in (samples.EACH_KIND, samples.LATCHES, samples.LOOSE, EMPTY, FORTY):
            with self.subTest(circuit):
                listing = list_cells(circuit)
                text = write_netlist(listing)
                self.assertIsNone(find_fault(text))
                self.assertEqual(read_netlist(text), listing)

    def test_same_values(self):
        for circuit in (samples.EACH_KIND, samples.LATCHES, samples.LOOSE):
            listing = list_cells(circuit)
            names = list(listing[0]) + [gate[0] for gate in listing[2]]
            for inputs, states in samples.all_cases(listing):
                values = net_values(listing, inputs, states)
                expected = [values[name] for name in names]
                self.assertEqual(cell_values(circuit, inputs, states), expected)


if __name__ == "__main__":
    unittest.main()
