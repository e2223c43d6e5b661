"""Point 32: the lengths of nets."""

import unittest

import samples
from gatesread.arranging import arrange
from gatesread.channels import route
from gatesread.lengths import net_length

# Two channels in the form of point 31: three tracks, and one.
CHANNELS = [
    [
        (4, 0, 1, 4, [("below", 1), ("above", 4)]),
        (2, 1, 2, 9, [("above", 2), ("below", 3), ("above", 6), ("below", 9)]),
        (7, 2, 4, 6, [("below", 4), ("below", 6)]),
    ],
    [],
    [(2, 0, 3, 4, [("above", 3), ("below", 4)]), (4, 0, 6, 8, [("above", 6), ("above", 8)])],
]


class NetLengthTest(unittest.TestCase):
    def check(self, channels, net, length):
        with self.subTest(channels=channels, net=net):
            self.assertEqual(net_length(channels, net), length)

    def test_one_channel(self):
        # Three tracks: below on track 2 is 7 * 2 + 5.
        self.check(CHANNELS, 7, 8 * 2 + 19 + 19)
        self.check(CHANNELS[:1], 7, 8 * 2 + 19 + 19)
        # On track 0: 5 for a pin below, 7 * 3 - 2 for a pin above.
        self.check(CHANNELS[:1], 4, 8 * 3 + 5 + 19)
        # On track 1: 12 for a pin below, 7 * 2 - 2 for a pin above.
        self.check(CHANNELS[:1], 2, 8 * 7 + 12 + 12 + 12 + 12)

    def test_one_track(self):
        self.check(CHANNELS[2:], 2, 8 * 1 + 5 + 5)
        self.check(CHANNELS[2:], 4, 8 * 2 + 5 + 5)

    def test_several_channels(self):
        self.check(CHANNELS, 4, 48 + 26)
        self.check(CHANNELS, 2, 104 + 18)
        self.check(CHANNELS + CHANNELS[:1], 2, 104 + 18 + 104)

    def test_in_no_channel(self):
        for net in (0, 1, 3, 8, -1, 100):
            self.check(CHANNELS, net, 0)
        self.check([], 0, 0)
        self.check([[], []], 0, 0)

    def test_routed(self):
        # Row -1: 0 at 1. Row 0: 0 at 2, 1 at 4, 1 at 6, 2 at 8. Row 1: 0 at 1.
        circuit = (1, (("not", (0,), 1), ("not", (1,), 2)), (0,), ())
        channels = route(circuit, arrange(circuit, [[0, 1]]))
        self.check(channels, 0, (8 + 5 + 5) + (8 + 5 + 5))
        self.check(channels, 1, 16 + 5 + 5)
        self.check(channels, 2, 0)

    def test_by_the_ways(self):
        """The way along the track, and from the bottom or the top of the channel to it."""
        for circuit, placement in samples.some_placements():
            channels = route(circuit, arrange(circuit, placement))
            for net in range(circuit[0] + len(circuit[1])):
                length = 0
                for channel in channels:
                    top = 7 * len({wire[1] for wire in channel}) + 3
                    for track, first, last, pins in [wire[1:] for wire in channel if wire[0] == net]:
                        # The middle of the track is at 7 * track + 5.
                        length += 8 * last - 8 * first
                        for side, column in pins:
                            middle = 7 * track + 5
                            length += middle if side == "below" else top - middle
                self.check(channels, net, length)


if __name__ == "__main__":
    unittest.main()
