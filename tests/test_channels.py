"""Points 29 to 31: the channels, the nets in them, and their tracks."""

import unittest

import samples
from gatesread.arranging import arrange, arranged_pins
from gatesread.channels import fullness, route, track_count

# Inputs 0 and 1; cell 0 is a nand2 (0 1 2), cell 1 a not (2 3), cell 2 a tie0 (4).
THREE = (2, (("nand2", (0, 1), 2), ("not", (2,), 3), ("tie0", (), 4)), (3, 0), ())


def routed(circuit, placement):
    return route(circuit, arrange(circuit, placement))


def joined_by_words(pins, k):
    """The pins (side, column) of a net in channel k by the words of points 29 and 30."""
    def is_in(channel):
        rows = sorted({row for row, column in pins})
        if len(rows) > 1:
            return channel in range(rows[0] + 1, rows[-1] + 1)
        return len(pins) > 1 and channel == rows[0] + 1

    if not is_in(k):
        return []
    below = sorted(column for row, column in pins if row == k - 1)
    if is_in(k - 1):
        below = [min(below)]
    joined = [(column, "below") for column in below]
    joined += [(column, "above") for row, column in pins if row == k]
    return [(side, column) for column, side in sorted(joined)]


def channels_by_words(circuit, arrangement):
    pins = arranged_pins(circuit, arrangement)
    channels = []
    for k in range(len(arrangement) - 1):
        spans = []
        for net in range(circuit[0] + len(circuit[1])):
            joined = joined_by_words([pin[1:] for pin in pins if pin[0] == net], k)
            if joined:
                spans.append((joined[0][1], joined[-1][1], net, joined))
        channels.append(tracks_by_words(sorted(spans)))
    return channels


def tracks_by_words(spans):
    columns = []
    channel = []
    for first, last, net, joined in spans:
        span = set(range(first, last + 1))
        columns.append(set())
        track = [span & taken for taken in columns].index(set())
        columns[track] |= span
        columns = [taken for taken in columns if taken]
        channel.append((track, first, (net, track, first, last, joined)))
    return [wire for track, first, wire in sorted(channel)]


class RouteTest(unittest.TestCase):
    def check(self, circuit, placement, channels):
        with self.subTest(circuit=circuit, placement=placement):
            self.assertEqual(routed(circuit, placement), channels)

    def test_nets_through_all_rows(self):
        # Row -1: 0 at 1, 1 at 3. Row 0: 2 at 2, 3 at 4, 0 at 6, 1 at 8.
        # Row 1: 0 at 1, 1 at 3, 2 at 5, 4 at 7, 3 at 9. Row 2: 3 at 2, 0 at 4.
        self.check(THREE, [[1], [0, 2]], [
            [
                (0, 0, 1, 6, [("below", 1), ("above", 6)]),
                (1, 1, 3, 8, [("below", 3), ("above", 8)]),
            ],
            [
                (0, 0, 1, 6, [("above", 1), ("below", 6)]),
                (2, 1, 2, 5, [("below", 2), ("above", 5)]),
                (1, 2, 3, 8, [("above", 3), ("below", 8)]),
                (3, 3, 4, 9, [("below", 4), ("above", 9)]),
            ],
            [
                (0, 0, 1, 4, [("below", 1), ("above", 4)]),
                (3, 1, 2, 9, [("above", 2), ("below", 9)]),
            ],
        ])

    def test_a_net_in_one_row(self):
        # Row -1: 0 at 1. Row 0: 0 at 2, 1 at 4, 1 at 6, 2 at 8. Row 1: 0 at 1.
        circuit = (1, (("not", (0,), 1), ("not", (1,), 2)), (0,), ())
        self.check(circuit, [[0, 1]], [
            [(0, 0, 1, 2, [("below", 1), ("above", 2)])],
            [
                (0, 0, 1, 2, [("above", 1), ("below", 2)]),
                (1, 0, 4, 6, [("below", 4), ("below", 6)]),
            ],
        ])

    def test_a_net_in_one_row_with_many_pins(self):
        # Row 0: 0 at 2, 4 and 6, 1 at 8, 0 at 10, 2 at 12. Row 1: 2 at 1. Row 2: 2 at 2.
        cells = (("latch", (0,), 0), ("not", (0,), 1), ("not", (0,), 2))
        self.check((0, cells, (2,), (0,)), [[0, 1, 2], []], [
            [],
            [
                (2, 0, 1, 12, [("above", 1), ("below", 12)]),
                (0, 1, 2, 10, [("below", 2), ("below", 4), ("below", 6), ("below", 10)]),
            ],
            [(2, 0, 1, 2, [("below", 1), ("above", 2)])],
        ])

    def test_only_the_leftmost_pin_below(self):
        # Row 0: 0 at 2, 1 at 4, 0 at 6, 2 at 8. Net 0 is in both channels, net 2 in the upper one.
        circuit = (1, (("not", (0,), 1), ("not", (0,), 2)), (0, 2), ())
        self.check(circuit, [[0, 1]], [
            [(0, 0, 1, 6, [("below", 1), ("above", 2), ("above", 6)])],
            [
                (0, 0, 1, 2, [("above", 1), ("below", 2)]),
                (2, 0, 3, 8, [("above", 3), ("below", 8)]),
            ],
        ])

    def test_all_pins_below(self):
        # Row -1: 0 at 1, 1 at 3. Row 0: 1 at 2, 2 at 4, 2 at 6, 3 at 8. Row 1: 2 at 1.
        circuit = (2, (("not", (1,), 2), ("not", (2,), 3)), (2,), ())
        self.check(circuit, [[0, 1]], [
            [(1, 0, 2, 3, [("above", 2), ("below", 3)])],
            [(2, 0, 1, 6, [("above", 1), ("below", 4), ("below", 6)])],
        ])
        # Row 0: 1 at 2. Row 1: 1 at 1, 2 at 3, 2 at 5, 3 at 7. Row 2: 2 at 2.
        self.check(circuit, [[], [0, 1]], [
            [(1, 0, 2, 3, [("above", 2), ("below", 3)])],
            [(1, 0, 1, 2, [("above", 1), ("below", 2)])],
            [(2, 0, 2, 5, [("above", 2), ("below", 3), ("below", 5)])],
        ])

    def test_spans_that_just_do_not_touch(self):
        # Row -1: 0 at 1, 1 at 3. Row 0: 0 at 2, 2 at 4, 1 at 6, 3 at 8. Row 1: 2 at 1.
        cells = (("not", (0,), 2), ("not", (1,), 3))
        self.check((2, cells, (2,), ()), [[0, 1]], [
            [
                (0, 0, 1, 2, [("below", 1), ("above", 2)]),
                (1, 0, 3, 6, [("below", 3), ("above", 6)]),
            ],
            [(2, 0, 1, 4, [("above", 1), ("below", 4)])],
        ])

    def test_spans_that_just_touch(self):
        # Row -1: 0 at 1, 1 at 3. Row 0: 2 at 2, 0 at 4, 1 at 6, 3 at 8. Row 1: 3 at 1.
        cells = (("tie0", (), 2), ("nand2", (0, 1), 3))
        self.check((2, cells, (3,), ()), [[0, 1]], [
            [
                (0, 0, 1, 4, [("below", 1), ("above", 4)]),
                (1, 1, 3, 6, [("below", 3), ("above", 6)]),
            ],
            [(3, 0, 1, 8, [("above", 1), ("below", 8)])],
        ])

    def test_a_lower_track_is_free_again(self):
        # Row -1: 0 at 1, 1 at 3, 2 at 5. Row 0: 1 at 2, 0 at 4, 3 at 6, 2 at 8, 4 at 10.
        cells = (("nand2", (1, 0), 3), ("not", (2,), 4))
        self.check((3, cells, (1,), ()), [[0, 1]], [
            [
                (0, 0, 1, 4, [("below", 1), ("above", 4)]),
                (2, 0, 5, 8, [("below", 5), ("above", 8)]),
                (1, 1, 2, 3, [("above", 2), ("below", 3)]),
            ],
            [(1, 0, 1, 2, [("above", 1), ("below", 2)])],
        ])

    def test_empty_channels(self):
        circuit = (0, (("tie1", (), 0),), (0,), ())
        self.check(circuit, [[], [0]], [[], [], [(0, 0, 1, 2, [("below", 1), ("above", 2)])]])
        self.check(circuit, [[0], []], [
            [],
            [(0, 0, 1, 2, [("above", 1), ("below", 2)])],
            [(0, 0, 1, 2, [("below", 1), ("above", 2)])],
        ])

    def test_no_cells(self):
        # Row -1: 0 at 1, 1 at 3. Row 0: 0 at 2, 1 at 4. Row 1: 1 at 1, 0 at 3, 1 at 5.
        self.check(samples.NO_CELLS, [[]], [
            [
                (0, 0, 1, 2, [("below", 1), ("above", 2)]),
                (1, 0, 3, 4, [("below", 3), ("above", 4)]),
            ],
            [
                (1, 0, 1, 5, [("above", 1), ("below", 4), ("above", 5)]),
                (0, 1, 2, 3, [("below", 2), ("above", 3)]),
            ],
        ])

    def test_arbitrary_placements(self):
        for circuit, placement in samples.some_placements():
            arrangement = arrange(circuit, placement)
            self.check(circuit, placement, channels_by_words(circuit, arrangement))

    def test_forty_cells(self):
        for row_count in range(1, 7):
            circuit = samples.arbitrary_circuit(row_count, 6, 40, 4)
            placement = samples.arbitrary_placement(9, circuit, row_count)
            arrangement = arrange(circuit, placement)
            self.check(circuit, placement, channels_by_words(circuit, arrangement))

    def test_arguments_and_results_are_not_kept(self):
        arrangement = arrange(THREE, [[1], [0, 2]])
        copy = [list(row) for row in arrangement]
        channels = route(THREE, arrangement)
        self.assertEqual(arrangement, copy)
        expected = channels_by_words(THREE, arrangement)
        for row in arrangement:
            row.clear()
        self.assertEqual(channels, expected)
        for channel in channels:
            for wire in channel:
                wire[4].clear()
            channel.clear()
        self.assertEqual(route(THREE, copy), expected)


class CountsTest(unittest.TestCase):
    def test_an_empty_channel(self):
        self.assertEqual(track_count([]), 0)
        self.assertEqual(fullness([]), 0)

    def test_one_net(self):
        channel = [(5, 0, 3, 6, [("below", 3), ("above", 6)])]
        self.assertEqual(track_count(channel), 1)
        self.assertEqual(fullness(channel), 1)

    def test_several_nets(self):
        channel = routed(THREE, [[1], [0, 2]])[1]
        self.assertEqual(track_count(channel), 4)
        self.assertEqual(fullness(channel), 4)

    def test_spans_side_by_side(self):
        channel = [(0, 0, 1, 4, []), (1, 0, 5, 8, []), (2, 0, 9, 10, [])]
        self.assertEqual(track_count(channel), 1)
        self.assertEqual(fullness(channel), 1)

    def test_fullness_counts_columns(self):
        one_column = [(0, 0, 1, 5, []), (1, 1, 5, 8, [])]
        self.assertEqual(fullness(one_column), 2)
        # Each span has a column in common with another one, and no column is in three.
        chain = [(0, 0, 1, 4, []), (2, 0, 6, 9, []), (1, 1, 3, 7, []), (3, 1, 9, 12, [])]
        self.assertEqual(fullness(chain), 2)
        inside = [(0, 0, 1, 12, []), (1, 1, 3, 4, []), (2, 1, 6, 9, []), (3, 2, 7, 8, [])]
        self.assertEqual(fullness(inside), 3)

    def test_as_many_tracks_as_the_fullness(self):
        for circuit, placement in samples.some_placements():
            for channel in routed(circuit, placement):
                columns = [column for net, track, first, last, pins in channel
                           for column in range(first, last + 1)]
                most = max([columns.count(column) for column in columns], default=0)
                self.assertEqual(fullness(channel), most)
                self.assertEqual(track_count(channel), most)


if __name__ == "__main__":
    unittest.main()
