"""Points 35, 41 and 42: the masks of a circuit."""

import unittest

import samples
from gatesread.arranging import arrange
from gatesread.cellshapes import cell_rectangles, feed_rectangles
from gatesread.channels import route, track_count
from gatesread.masks import draw_masks
from gatesread.wireshapes import channel_rectangles

# A latch cell that holds the netlist's latch 2.
ONE_LATCH = (1, (("latch", (0,), 1),), (1,), (2,))
ONE_LATCH_RECTANGLES = """
metal1 26 7 38 11
metal2 26 4 30 11
via 27 8 29 10
metal2 34 7 38 14
via 35 8 37 10
metal1 4 14 60 18
via 5 15 7 17
metal1 12 62 68 66
via 65 63 67 65
latch 32 34 56 46
metal2 34 14 38 66
metal2 50 14 54 66
metal1 26 69 54 73
metal2 26 69 30 76
via 27 70 29 72
metal2 50 66 54 73
via 51 70 53 72
metal2 4 0 8 80
metal2 64 0 68 80
metal2 26 0 30 4
metal2 26 76 30 80
"""
ONE_LATCH_LABELS = [
    ("ground", 0, 6, 2),
    ("power", 0, 66, 2),
    ("input", 0, 28, 2),
    ("output", 0, 28, 78),
    ("latch", 2, 44, 40),
]

# Row -1: 0 at 1, 1 at 3. Row 0: 0 at 2, 1 at 4. Row 1: 1 at 1, 0 at 3, 1 at 5.
NO_CELLS_RECTANGLES = """
metal1 26 7 38 11
metal2 26 4 30 11
via 27 8 29 10
metal2 34 7 38 14
via 35 8 37 10
metal1 42 7 54 11
metal2 42 4 46 11
via 43 8 45 10
metal2 50 7 54 14
via 51 8 53 10
metal1 4 14 68 18
via 5 15 7 17
metal1 12 62 76 66
via 73 63 75 65
metal2 34 14 38 66
metal2 50 14 54 66
metal1 26 69 62 73
metal2 26 69 30 83
via 27 70 29 72
metal2 50 66 54 73
via 51 70 53 72
metal2 58 69 62 83
via 59 70 61 72
metal1 34 76 46 80
metal2 34 66 38 80
via 35 77 37 79
metal2 42 76 46 83
via 43 77 45 79
metal2 4 0 8 87
metal2 72 0 76 87
metal2 26 0 30 4
metal2 42 0 46 4
metal2 26 83 30 87
metal2 42 83 46 87
metal2 58 83 62 87
"""
NO_CELLS_LABELS = [
    ("ground", 0, 6, 2),
    ("power", 0, 74, 2),
    ("input", 0, 28, 2),
    ("input", 1, 44, 2),
    ("output", 0, 28, 85),
    ("output", 1, 44, 85),
    ("output", 2, 60, 85),
]


def drawn(circuit, placement):
    arrangement = arrange(circuit, placement)
    return draw_masks(circuit, arrangement, route(circuit, arrangement))


def masks_by_words(circuit, arrangement, channels):
    """Points 41 and 42, with the rectangles of things and channels as the program makes them."""
    c = 1 + max(max(taken_columns(circuit, thing)) for row in arrangement for thing in row)
    rectangles, bottoms, y = [], {}, 4
    for k, channel in enumerate(channels):
        rectangles += channel_rectangles(channel, y)
        y += 7 * track_count(channel) + 3
        if k + 1 < len(channels):
            bottoms[k] = y
            rectangles += [("metal1", 4, y, 8 * c + 20, y + 4), ("via", 5, y + 1, 7, y + 3)]
            rectangles += [("metal1", 12, y + 48, 8 * c + 28, y + 52)]
            rectangles += [("via", 8 * c + 25, y + 49, 8 * c + 27, y + 51)]
            for kind, number, column in arrangement[k + 1]:
                if kind == "feed":
                    rectangles += feed_rectangles(column, y)
                else:
                    rectangles += cell_rectangles(circuit[1][number][0], column, y)
            y += 52
    rectangles += [("metal2", 4, 0, 8, y + 4), ("metal2", 8 * c + 24, 0, 8 * c + 28, y + 4)]
    labels = [("ground", 0, 6, 2), ("power", 0, 8 * c + 26, 2)]
    for kind, number, column in arrangement[0]:
        x = 8 * (column + 1) + 20
        rectangles.append(("metal2", x - 2, 0, x + 2, 4))
        labels.append(("input", number, x, 2))
    for kind, number, column in arrangement[-1]:
        x = 8 * (column + 1) + 20
        rectangles.append(("metal2", x - 2, y, x + 2, y + 4))
        labels.append(("output", number, x, y + 2))
    return rectangles, labels + latches_by_words(circuit, arrangement, bottoms)


def taken_columns(circuit, thing):
    kind, number, column = thing
    width = 2
    if kind == "cell":
        width += 2 * samples.INPUT_COUNTS[circuit[1][number][0]]
    return range(column, column + width)


def latches_by_words(circuit, arrangement, bottoms):
    cells = [k for k, cell in enumerate(circuit[1]) if cell[0] == "latch"]
    labels = []
    for n, cell in zip(circuit[3], cells):
        for row, bottom in bottoms.items():
            for kind, number, column in arrangement[row + 1]:
                if (kind, number) == ("cell", cell):
                    labels.append(("latch", n, 8 * (column + 2) + 20, bottom + 26))
    return labels


class DrawMasksTest(unittest.TestCase):
    def check(self, circuit, placement, rectangles, labels):
        with self.subTest(circuit=circuit, placement=placement):
            found = drawn(circuit, placement)
            self.assertIsInstance(found, tuple)
            self.assertEqual(found, (rectangles, labels))

    def test_one_latch(self):
        rectangles = samples.rectangles_of(ONE_LATCH_RECTANGLES)
        self.check(ONE_LATCH, [[0]], rectangles, ONE_LATCH_LABELS)

    def test_no_cells(self):
        rectangles = samples.rectangles_of(NO_CELLS_RECTANGLES)
        self.check(samples.NO_CELLS, [[]], rectangles, NO_CELLS_LABELS)

    def test_no_inputs_and_empty_channels(self):
        # Row 1: the tie1 at column 0 with its pin at 1; row 2: its output at 2. Both lower
        # channels are 3 high, and row 0 is empty.
        circuit = (0, (("tie1", (), 0),), (0,), ())
        self.check(circuit, [[], [0]], samples.rectangles_of("""
            metal1 4 7 44 11
            via 5 8 7 10
            metal1 12 55 52 59
            via 49 56 51 58
            metal1 4 62 44 66
            via 5 63 7 65
            metal1 12 110 52 114
            via 49 111 51 113
            metal1 26 89 30 114
            via 27 90 29 92
            metal2 26 62 30 114
            metal1 26 117 38 121
            metal2 26 114 30 121
            via 27 118 29 120
            metal2 34 117 38 124
            via 35 118 37 120
            metal2 4 0 8 128
            metal2 48 0 52 128
            metal2 34 124 38 128
        """), [("ground", 0, 6, 2), ("power", 0, 50, 2), ("output", 0, 36, 126)])

    def test_the_widest_row(self):
        # The power rail ends at 8 * C + 28, where C comes from the row that reaches farthest.
        widest = {
            # A row of pads.
            (6, (), (0,), ()): 12,
            (1, (), (0,) * 6, ()): 12,
            # A row of cells, which starts at column 1.
            (1, (("not", (0,), 1), ("latch", (1,), 2)), (2,), (0,)): 9,
        }
        for circuit, c in widest.items():
            rectangles, labels = drawn(circuit, [list(range(len(circuit[1])))])
            self.assertEqual(max(rectangle[3] for rectangle in rectangles), 8 * c + 28)
            self.assertEqual(labels[1], ("power", 0, 8 * c + 26, 2))
        # A row of feeds, and the pads above it, which start at column 1, too.
        rectangles, labels = drawn((6, (), (0, 1, 2, 3, 4, 5), ()), [[], []])
        self.assertEqual(labels[1], ("power", 0, 8 * 13 + 26, 2))

    def test_the_latches_of_the_netlist(self):
        labels = drawn(samples.LATCHES, [[3, 1, 6], [5, 0, 2, 4]])[1]
        self.assertEqual([label[:2] for label in labels if label[0] == "latch"],
                         [("latch", 3), ("latch", 0), ("latch", 2), ("latch", 1)])
        # Cell 3 is the first one of row 0, cell 5 the first one of row 1.
        self.assertEqual([label[2] for label in labels if label[1:2] == (0,)][-1], 8 * 3 + 20)
        self.assertEqual([label[2] for label in labels if label[:2] == ("latch", 2)], [8 * 2 + 20])

    def test_arbitrary_placements(self):
        for circuit, placement in samples.some_placements():
            arrangement = arrange(circuit, placement)
            channels = route(circuit, arrangement)
            self.check(circuit, placement, *masks_by_words(circuit, arrangement, channels))

    def test_forty_cells(self):
        circuit = samples.arbitrary_circuit(2, 6, 40, 4)
        placement = samples.arbitrary_placement(2, circuit, 6)
        arrangement = arrange(circuit, placement)
        channels = route(circuit, arrangement)
        self.check(circuit, placement, *masks_by_words(circuit, arrangement, channels))

    def test_arguments_and_results_are_not_kept(self):
        arrangement = arrange(ONE_LATCH, [[0]])
        channels = route(ONE_LATCH, arrangement)
        for part in draw_masks(ONE_LATCH, arrangement, channels):
            part.clear()
        self.assertEqual(arrangement, arrange(ONE_LATCH, [[0]]))
        self.assertEqual(channels, route(ONE_LATCH, arrangement))
        self.assertEqual(draw_masks(ONE_LATCH, arrangement, channels)[1], ONE_LATCH_LABELS)

    def test_the_form_of_rectangles_and_labels(self):
        for circuit, placement in samples.some_placements():
            rectangles, labels = drawn(circuit, placement)
            for layer, left, bottom, right, top in rectangles:
                self.assertTrue(left < right and bottom < top)
            self.assertEqual(len({label[:2] for label in labels}), len(labels))


if __name__ == "__main__":
    unittest.main()
