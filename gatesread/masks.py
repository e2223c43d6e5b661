"""The masks of a circuit (points 41 and 42)."""

from gatesread.cellshapes import cell_rectangles, feed_rectangles
from gatesread.grid import channel_height, channel_tops, middle
from gatesread.things import thing_end
from gatesread.wireshapes import channel_rectangles


def draw_masks(circuit, arrangement, channels):
    """Return the pair of the list of rectangles and the list of labels."""
    right = middle(column_count(circuit, arrangement))
    tops = channel_tops(channels)
    rectangles = []
    for k, channel in enumerate(channels):
        rectangles += channel_rectangles(channel, tops[k] - channel_height(channel))
        if k < len(channels) - 1:
            rectangles += rail_rectangles(right, tops[k])
            rectangles += row_rectangles(circuit, arrangement[k + 1], tops[k])
    rectangles += edge_rectangles(arrangement, right, tops[-1])
    return rectangles, draw_labels(circuit, arrangement, right, tops)


def column_count(circuit, arrangement):
    """Return 1 more than the greatest column that a thing of an arrangement takes up."""
    return max([thing_end(circuit, thing) for things in arrangement for thing in things])


def rail_rectangles(right, y):
    """Return the rectangles of the rails of a row with its bottom at y."""
    return [
        ("metal1", 4, y, right, y + 4),
        ("via", 5, y + 1, 7, y + 3),
        ("metal1", 12, y + 48, right + 8, y + 52),
        ("via", right + 5, y + 49, right + 7, y + 51),
    ]


def row_rectangles(circuit, things, y):
    """Return the rectangles of the things of a row with its bottom at y."""
    rectangles = []
    for kind, number, column in things:
        if kind == "cell":
            rectangles += cell_rectangles(circuit[1][number][0], column, y)
        else:
            rectangles += feed_rectangles(column, y)
    return rectangles


def edge_rectangles(arrangement, right, y):
    """Return the rectangles of the trunks and the pads; y is the top of the last channel."""
    rectangles = [("metal2", 4, 0, 8, y + 4), ("metal2", right + 4, 0, right + 8, y + 4)]
    for x in pad_middles(arrangement[0]):
        rectangles.append(("metal2", x - 2, 0, x + 2, 4))
    for x in pad_middles(arrangement[-1]):
        rectangles.append(("metal2", x - 2, y, x + 2, y + 4))
    return rectangles


def pad_middles(pads):
    """Return the list of the middles of the columns of the pins of pads, in order."""
    return [middle(column + 1) for kind, number, column in pads]


def draw_labels(circuit, arrangement, right, tops):
    """Return the list of the labels."""
    labels = [("ground", 0, 6, 2), ("power", 0, right + 6, 2)]
    for i, x in enumerate(pad_middles(arrangement[0])):
        labels.append(("input", i, x, 2))
    for i, x in enumerate(pad_middles(arrangement[-1])):
        labels.append(("output", i, x, tops[-1] + 2))
    return labels + latch_labels(circuit, arrangement, tops)


def latch_labels(circuit, arrangement, tops):
    """Return the labels of the latch cells, in the order of the cells."""
    places = {}
    for y, things in zip(tops, arrangement[1:-1]):
        for kind, number, column in things:
            if kind == "cell":
                places[number] = (middle(column + 2), y + 26)
    latches = [cell for cell, (kind, sources, output) in enumerate(circuit[1]) if kind == "latch"]
    return [("latch", number, *places[cell]) for cell, number in zip(latches, circuit[3])]
