"""Points 36 and 40: the rectangles of a channel."""

import unittest

import samples
from gatesread.arranging import arrange
from gatesread.channels import route
from gatesread.wireshapes import channel_rectangles


def rectangles_by_words(channel, y):
    t = len({wire[1] for wire in channel})
    rectangles = []
    for net, track, first, last, pins in channel:
        v = y + 3 + 7 * track
        rectangles.append(("metal1", 8 * first + 18, v, 8 * last + 22, v + 4))
        for side, c in pins:
            ends = {"below": (y, v + 4), "above": (v, y + 7 * t + 3)}[side]
            rectangles.append(("metal2", 8 * c + 18, ends[0], 8 * c + 22, ends[1]))
            rectangles.append(("via", 8 * c + 19, v + 1, 8 * c + 21, v + 3))
    return rectangles


class ChannelRectanglesTest(unittest.TestCase):
    def check(self, channel, bottom, text):
        copy = [(*wire[:4], list(wire[4])) for wire in channel]
        self.assertEqual(channel_rectangles(channel, bottom), samples.rectangles_of(text))
        self.assertEqual(channel, copy)

    def test_empty(self):
        self.assertEqual(channel_rectangles([], 4), [])

    def test_one_net(self):
        channel = [(0, 0, 1, 2, [("below", 1), ("above", 2)])]
        self.check(channel, 4, """
            metal1 26 7 38 11
            metal2 26 4 30 11
            via 27 8 29 10
            metal2 34 7 38 14
            via 35 8 37 10
        """)

    def test_two_tracks(self):
        channel = [
            (3, 0, 0, 3, [("above", 0), ("below", 3)]),
            (1, 0, 5, 7, [("below", 5), ("below", 7)]),
            (2, 1, 2, 4, [("above", 2), ("above", 4)]),
        ]
        self.check(channel, 100, """
            metal1 18 103 46 107
            metal2 18 103 22 117
            via 19 104 21 106
            metal2 42 100 46 107
            via 43 104 45 106
            metal1 58 103 78 107
            metal2 58 100 62 107
            via 59 104 61 106
            metal2 74 100 78 107
            via 75 104 77 106
            metal1 34 110 54 114
            metal2 34 110 38 117
            via 35 111 37 113
            metal2 50 110 54 117
            via 51 111 53 113
        """)

    def test_channels_that_are_not_routed(self):
        # Higher tracks than needed, a span of one column, no pins, nets twice, any bottom.
        channel = [
            (0, 0, 4, 4, [("above", 4)]),
            (7, 1, 20, 30, []),
            (0, 2, 1, 2, [("above", 1), ("below", 2)]),
        ]
        self.check(channel, -10, """
            metal1 50 -7 54 -3
            metal2 50 -7 54 14
            via 51 -6 53 -4
            metal1 178 0 262 4
            metal1 26 7 38 11
            metal2 26 7 30 14
            via 27 8 29 10
            metal2 34 -10 38 11
            via 35 8 37 10
        """)

    def test_routed_channels(self):
        for circuit, placement in samples.some_placements():
            for k, channel in enumerate(route(circuit, arrange(circuit, placement))):
                with self.subTest(circuit=circuit, placement=placement, k=k):
                    rectangles = channel_rectangles(channel, 31 * k)
                    self.assertEqual(rectangles, rectangles_by_words(channel, 31 * k))

    def test_new_list(self):
        channel = [(0, 0, 1, 2, [("below", 1), ("above", 2)])]
        copy = channel_rectangles(channel, 0)
        channel_rectangles(channel, 0).clear()
        self.assertEqual(channel_rectangles(channel, 0), copy)


if __name__ == "__main__":
    unittest.main()
