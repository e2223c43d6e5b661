"""Points 24 and 28: arrangements, their feeds, and their pins."""

import unittest

import samples
from gatesread.arranging import arrange, arranged_pins

# Inputs 0 and 1; cell 0 is a nand2 (0 1 2), cell 1 a not (2 3), cell 2 a tie0 (4).
THREE = (2, (("nand2", (0, 1), 2), ("not", (2,), 3), ("tie0", (), 4)), (3, 0), ())


def oracle_feeds(circuit, placement):
    """The nets of the feeds of each row, from row 0 on."""
    feeds = [[] for _ in placement]
    for net, places in samples.placed_pins(circuit, placement).items():
        rows = [row for row, column in places]
        for row in range(min(rows), max(rows)):
            if row not in rows:
                feeds[row].append(net)
    return feeds


def oracle_arrangement(circuit, placement):
    rows = [[("input", i, 2) for i in range(circuit[0])]]
    for cells, nets in zip(placement, oracle_feeds(circuit, placement)):
        widths = [2 * samples.INPUT_COUNTS[circuit[1][cell][0]] + 2 for cell in cells]
        row = [("cell", cell, width) for cell, width in zip(cells, widths)]
        rows.append(row + [("feed", net, 2) for net in nets])
    rows.append([("output", i, 2) for i in range(len(circuit[2]))])
    arrangement = []
    for index, row in enumerate(rows):
        start = index % 2
        arrangement.append([(kind, number, start + sum(thing[2] for thing in row[:at]))
                            for at, (kind, number, width) in enumerate(row)])
    return arrangement


class ArrangeTest(unittest.TestCase):
    def check(self, circuit, placement, arrangement):
        with self.subTest(circuit=circuit, placement=placement):
            copy = [list(row) for row in placement]
            self.assertEqual(arrange(circuit, placement), arrangement)
            self.assertEqual(placement, copy)

    def test_one_row(self):
        self.check(THREE, [[2, 0, 1]], [
            [("input", 0, 0), ("input", 1, 2)],
            [("cell", 2, 1), ("cell", 0, 3), ("cell", 1, 9)],
            [("output", 0, 0), ("output", 1, 2)],
        ])

    def test_feeds_at_the_right_end(self):
        self.check(THREE, [[1], [0, 2]], [
            [("input", 0, 0), ("input", 1, 2)],
            [("cell", 1, 1), ("feed", 0, 5), ("feed", 1, 7)],
            [("cell", 0, 0), ("cell", 2, 6), ("feed", 3, 8)],
            [("output", 0, 1), ("output", 1, 3)],
        ])

    def test_empty_rows(self):
        self.check(THREE, [[], [2, 1], [], [0], []], [
            [("input", 0, 0), ("input", 1, 2)],
            [("feed", 0, 1), ("feed", 1, 3)],
            [("cell", 2, 0), ("cell", 1, 2), ("feed", 0, 6), ("feed", 1, 8)],
            [("feed", 0, 1), ("feed", 1, 3), ("feed", 2, 5), ("feed", 3, 7)],
            [("cell", 0, 0), ("feed", 3, 6)],
            [("feed", 0, 1), ("feed", 3, 3)],
            [("output", 0, 0), ("output", 1, 2)],
        ])

    def test_feeds_in_the_row_of_a_cell_that_has_no_such_pin(self):
        circuit = (1, (("not", (0,), 1), ("not", (0,), 2)), (1,), ())
        self.check(circuit, [[0], [], [1]], [
            [("input", 0, 0)],
            [("cell", 0, 1)],
            [("feed", 0, 0), ("feed", 1, 2)],
            [("cell", 1, 1), ("feed", 1, 5)],
            [("output", 0, 0)],
        ])

    def test_no_cells(self):
        self.check(samples.NO_CELLS, [[]], [
            [("input", 0, 0), ("input", 1, 2)],
            [("feed", 0, 1), ("feed", 1, 3)],
            [("output", 0, 0), ("output", 1, 2), ("output", 2, 4)],
        ])
        self.check((3, (), (1,), ()), [[], []], [
            [("input", 0, 0), ("input", 1, 2), ("input", 2, 4)],
            [("feed", 1, 1)],
            [("feed", 1, 0)],
            [("output", 0, 1)],
        ])

    def test_no_inputs(self):
        self.check(samples.NO_INPUTS, [[2], [0, 1]], [
            [],
            [("cell", 2, 1)],
            [("cell", 0, 0), ("cell", 1, 4), ("feed", 2, 6)],
            [("output", 0, 1), ("output", 1, 3), ("output", 2, 5)],
        ])

    def test_arbitrary_placements(self):
        for circuit, placement in samples.some_placements():
            self.check(circuit, placement, oracle_arrangement(circuit, placement))

    def test_forty_cells(self):
        circuit = samples.arbitrary_circuit(9, 6, 40, 4)
        placement = samples.arbitrary_placement(9, circuit, 6)
        self.check(circuit, placement, oracle_arrangement(circuit, placement))

    def test_new_lists(self):
        arrangement = arrange(THREE, [[1], [0, 2]])
        for row in arrangement:
            row.clear()
        self.assertEqual(arrange(THREE, [[1], [0, 2]]), oracle_arrangement(THREE, [[1], [0, 2]]))

    def test_wrong_placements(self):
        for circuit in (THREE, samples.LOOSE):
            samples.check_wrong_placements(self, lambda wrong: arrange(circuit, wrong), circuit)


class ArrangedPinsTest(unittest.TestCase):
    def test_two_rows(self):
        self.assertEqual(arranged_pins(THREE, arrange(THREE, [[1], [0, 2]])), [
            (0, -1, 1), (1, -1, 3),
            (2, 0, 2), (3, 0, 4), (0, 0, 6), (1, 0, 8),
            (0, 1, 1), (1, 1, 3), (2, 1, 5), (4, 1, 7), (3, 1, 9),
            (3, 2, 2), (0, 2, 4),
        ])

    def test_no_cells_and_no_inputs(self):
        arrangement = arrange(samples.NO_CELLS, [[]])
        self.assertEqual(arranged_pins(samples.NO_CELLS, arrangement), [
            (0, -1, 1), (1, -1, 3), (0, 0, 2), (1, 0, 4), (1, 1, 1), (0, 1, 3), (1, 1, 5)])
        circuit = (0, (("tie1", (), 0),), (0, 0), ())
        self.assertEqual(arranged_pins(circuit, arrange(circuit, [[], [0]])), [
            (0, 1, 1), (0, 2, 2), (0, 2, 4)])

    def test_arbitrary_placements(self):
        for circuit, placement in samples.some_placements():
            with self.subTest(circuit=circuit, placement=placement):
                arrangement = arrange(circuit, placement)
                copy = [list(row) for row in arrangement]
                pins = arranged_pins(circuit, arrangement)
                self.check_pins(circuit, placement, pins)
                self.assertEqual(arrangement, copy)
                pins.clear()
                self.assertNotEqual(arranged_pins(circuit, arrangement), [])

    def check_pins(self, circuit, placement, pins):
        # The order of the rows and columns, and in each place one pin.
        places = [(row, column) for net, row, column in pins]
        self.assertEqual(places, sorted(set(places)))
        self.assertEqual([place for place in places if sum(place) % 2], [])
        expected = {(net, row, column)
                    for net, places in samples.placed_pins(circuit, placement).items()
                    for row, column in places}
        self.assertEqual(expected - set(pins), set())
        feeds = sorted((row, net) for net, row, column in set(pins) - expected)
        self.assertEqual(feeds, [(row, net)
                                 for row, nets in enumerate(oracle_feeds(circuit, placement))
                                 for net in nets])


if __name__ == "__main__":
    unittest.main()
