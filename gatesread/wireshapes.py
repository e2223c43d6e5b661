"""The rectangles of a channel (point 40)."""

from gatesread.grid import TRACK_HEIGHT, channel_height, middle


def channel_rectangles(channel, bottom):
    """Return the list of the rectangles of a channel."""
    top = bottom + channel_height(channel)
    rectangles = []
    for net, track, first, last, pins in channel:
        low = bottom + 3 + TRACK_HEIGHT * track
        rectangles.append(("metal1", middle(first) - 2, low, middle(last) + 2, low + 4))
        for side, column in pins:
            rectangles += joint_rectangles(side, middle(column), low, bottom, top)
    return rectangles


def joint_rectangles(side, x, low, bottom, top):
    """Return the rectangles that join a net to a pin at x; the metal1 of the net begins at low."""
    via = ("via", x - 1, low + 1, x + 1, low + 3)
    if side == "below":
        return [("metal2", x - 2, bottom, x + 2, low + 4), via]
    return [("metal2", x - 2, low, x + 2, top), via]
