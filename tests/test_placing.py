"""Points 23 to 25: widths of cells, placements, and the first placement."""

import unittest

import samples
from gatesread.errors import InvalidPlacement
from gatesread.placing import cell_width, check_placement, first_placement

# The kinds of cells by their widths.
KINDS = {2: "tie0", 4: "not", 6: "nor2", 8: "nand3"}


def circuit_of(widths):
    """A circuit with three inputs and cells of some widths."""
    inputs = {2: (), 4: (0,), 6: (2, 1), 8: (0, 1, 2)}
    cells = tuple((KINDS[width], inputs[width], 3 + k) for k, width in enumerate(widths))
    return 3, cells, (0,), ()


class CellWidthTest(unittest.TestCase):
    def test_each_kind(self):
        widths = {"not": 4, "nand2": 6, "nand3": 8, "nor2": 6, "nor3": 8, "latch": 4,
                  "tie0": 2, "tie1": 2}
        self.assertEqual({kind: cell_width(kind) for kind in widths}, widths)


class CheckPlacementTest(unittest.TestCase):
    def check(self, circuit, placement):
        with self.subTest(circuit=circuit, placement=placement):
            copy = [list(row) for row in placement]
            self.assertIsNone(check_placement(circuit, placement))
            self.assertEqual(placement, copy)

    def test_placements(self):
        circuit = circuit_of([4, 6, 2])
        self.check(circuit, [[0, 1, 2]])
        self.check(circuit, [[2, 0, 1]])
        self.check(circuit, [[1], [2, 0]])
        self.check(circuit, [[2], [1], [0]])

    def test_empty_rows(self):
        circuit = circuit_of([4, 6, 2])
        self.check(circuit, [[], [1, 0, 2]])
        self.check(circuit, [[1, 2], [], [0]])
        self.check(circuit, [[0, 2, 1], []])
        self.check(circuit, [[], [], [1], [2, 0], [], []])

    def test_no_cells(self):
        for row_count in range(1, 7):
            self.check(samples.NO_CELLS, [[]] * row_count)

    def test_arbitrary_placements(self):
        for circuit, placement in samples.some_placements():
            self.check(circuit, placement)

    def test_wrong_placements(self):
        for circuit in (samples.LOOSE, circuit_of([2, 2]), samples.arbitrary_circuit(1, 6, 40, 4)):
            samples.check_wrong_placements(
                self, lambda wrong: check_placement(circuit, wrong), circuit)

    def test_a_cell_where_there_is_none(self):
        for placement in ([[0]], [[-1]], [[], [0]]):
            with self.assertRaises(InvalidPlacement):
                check_placement(samples.NO_CELLS, placement)

    def test_numbers_of_rows_without_cells(self):
        for row_count in (0, 7, 8):
            with self.assertRaises(InvalidPlacement):
                check_placement(samples.NO_CELLS, [[]] * row_count)


class FirstPlacementTest(unittest.TestCase):
    def check(self, widths, row_count, placement):
        with self.subTest(widths=widths, row_count=row_count):
            self.assertEqual(first_placement(circuit_of(widths), row_count), placement)

    def test_one_row(self):
        self.check([4, 4, 6, 8, 2], 1, [[0, 1, 2, 3, 4]])

    def test_as_long_as_the_sum_is_less(self):
        # 24 columns: 12 for each of two rows, 8 for each of three, 4 for each of six.
        self.check([4, 4, 6, 8, 2], 2, [[0, 1, 2], [3, 4]])
        self.check([4, 4, 6, 8, 2], 3, [[0, 1], [2, 3], [4]])
        self.check([4, 4, 6, 8, 2], 6, [[0], [1], [2], [3], [4], []])

    def test_rounded_up(self):
        # 10 columns: 3 for each of four rows, 4 for each of three.
        self.check([2, 2, 2, 2, 2], 4, [[0, 1], [2, 3], [4], []])
        self.check([2, 2, 2, 2, 2], 3, [[0, 1], [2, 3], [4]])
        # 22 columns: 6 for each of four rows, 5 for each of five, 4 for each of six.
        self.check([4, 4, 4, 4, 4, 2], 4, [[0, 1], [2, 3], [4, 5], []])
        self.check([4, 4, 4, 4, 4, 2], 5, [[0, 1], [2, 3], [4, 5], [], []])
        self.check([4, 4, 4, 4, 4, 2], 6, [[0], [1], [2], [3], [4], [5]])

    def test_the_last_row_takes_what_is_left(self):
        # 28 columns: 14 for each of two rows, 10 for each of three.
        self.check([2, 4, 8, 2, 4, 8], 2, [[0, 1, 2], [3, 4, 5]])
        self.check([2, 2, 8, 8, 8], 2, [[0, 1, 2, 3], [4]])
        self.check([8, 2, 2, 8, 8], 3, [[0, 1], [2, 3], [4]])
        # 18 columns: 3 for each of six rows, 9 for each of two.
        self.check([4, 4, 2, 2, 2, 2, 2], 6, [[0], [1], [2, 3], [4, 5], [6], []])
        self.check([4, 4, 4, 2, 2, 2], 2, [[0, 1, 2], [3, 4, 5]])

    def test_fewer_cells_than_rows(self):
        self.check([8, 2], 6, [[0], [1], [], [], [], []])
        self.check([2], 3, [[0], [], []])

    def test_no_cells(self):
        for row_count in range(1, 7):
            self.assertEqual(first_placement(samples.NO_CELLS, row_count), [[]] * row_count)

    def test_forty_cells(self):
        placement = first_placement(samples.arbitrary_circuit(3, 6, 40, 4), 6)
        self.assertEqual([cell for row in placement for cell in row], list(range(40)))
        self.assertEqual(len(placement), 6)

    def test_wrong_numbers_of_rows(self):
        for circuit in samples.PLACED_CIRCUITS:
            for row_count in (0, 7, -1, -6, 100):
                with self.assertRaises(InvalidPlacement):
                    first_placement(circuit, row_count)

    def test_new_lists(self):
        for circuit in (samples.NO_CELLS, samples.LOOSE):
            placement = first_placement(circuit, 3)
            copy = [list(row) for row in placement]
            for row in placement:
                row.append(0)
                self.assertEqual(len([other for other in placement if other is row]), 1)
            self.assertEqual([row[:-1] for row in placement], copy)
            placement.clear()
            self.assertEqual(first_placement(circuit, 3), copy)


if __name__ == "__main__":
    unittest.main()
