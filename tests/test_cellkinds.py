"""Points 14 and 18: the kinds of cells."""

import unittest

import samples
from gatesread.cellkinds import cell_inputs, cell_value

# The values of each kind, for the inputs in ascending order of the lists of bits.
TRUTH = {
    "not": [1, 0],
    "nand2": [1, 1, 1, 0],
    "nand3": [1, 1, 1, 1, 1, 1, 1, 0],
    "nor2": [1, 0, 0, 0],
    "nor3": [1, 0, 0, 0, 0, 0, 0, 0],
    "tie0": [0],
    "tie1": [1],
}


class CellKindsTest(unittest.TestCase):
    def test_cell_inputs(self):
        expected = {"not": 1, "nand2": 2, "nand3": 3, "nor2": 2, "nor3": 3}
        expected.update({"latch": 1, "tie0": 0, "tie1": 0})
        for kind, count in expected.items():
            with self.subTest(kind):
                self.assertEqual(cell_inputs(kind), count)

    def test_cell_value(self):
        for kind, values in TRUTH.items():
            for bits, value in zip(samples.bit_lists(cell_inputs(kind)), values):
                with self.subTest(kind=kind, bits=bits):
                    given = list(bits)
                    self.assertEqual(cell_value(kind, given), value)
                    self.assertEqual(given, bits)


if __name__ == "__main__":
    unittest.main()
