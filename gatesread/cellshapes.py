"""The rectangles of cells and feeds (points 36 to 39)."""

from gatesread.cellkinds import cell_inputs
from gatesread.grid import ROW_HEIGHT, middle

# For the lower and the upper side of a cell: the contacts of the ends, the metal1 of a ground or
# power end, that of an output end, and that which joins the output ends, each from its bottom to
# its top.
LOWER_SIDE = ((9, 11), (0, 12), (8, 18), (15, 18))
UPPER_SIDE = ((41, 43), (40, 52), (34, 44), (34, 37))


def cell_rectangles(kind, column, bottom):
    """Return the list of the rectangles of a cell."""
    if kind == "latch":
        shapes = latch_shapes(column)
    elif kind == "tie0":
        shapes = tie_shapes(middle(column + 1), 0, 31)
    elif kind == "tie1":
        shapes = tie_shapes(middle(column + 1), 27, ROW_HEIGHT)
    else:
        shapes = gate_shapes(kind, column)
    return raised(shapes, bottom)


def feed_rectangles(column, bottom):
    """Return the list of the rectangles of a feed."""
    return raised([pin_shape(middle(column + 1))], bottom)


def raised(shapes, bottom):
    """Return rectangles whose heights are counted from a bottom as rectangles of the masks."""
    return [(layer, left, low + bottom, right, high + bottom)
            for layer, left, low, right, high in shapes]


def upright(layer, x, half, heights):
    """Return a rectangle on both sides of x, with half its width on each, between two heights."""
    return layer, x - half, heights[0], x + half, heights[1]


def pin_shape(x):
    """Return the metal2 of a pin, which is as high as the row."""
    return upright("metal2", x, 2, (0, ROW_HEIGHT))


def via_shape(x):
    """Return the via below the metal2 of a pin."""
    return upright("via", x, 1, (28, 30))


def latch_shapes(column):
    """Return the rectangles of a latch cell."""
    d = middle(column + 1)
    q = middle(column + 3)
    return [("latch", d - 4, 20, q + 4, 32), pin_shape(d), pin_shape(q)]


def tie_shapes(x, low, high):
    """Return the rectangles of a tie0 or tie1 whose metal1 is between two heights."""
    return [upright("metal1", x, 2, (low, high)), via_shape(x), pin_shape(x)]


def gate_shapes(kind, column):
    """Return the rectangles of a not, nand2, nand3, nor2 or nor3."""
    count = cell_inputs(kind)
    ends = [middle(column + 2 * j) for j in range(count + 1)]
    shapes = [
        ("ndiff", ends[0] - 2, 8, ends[-1] + 2, 12),
        ("pdiff", ends[0] - 2, 40, ends[-1] + 2, 44),
    ]
    for i in range(count):
        shapes += input_shapes(middle(column + 1 + 2 * i))
    shapes += output_shapes(ends[-1], middle(column + 2 * count + 1))
    shapes += side_shapes(ends, kind in ("nand2", "nand3"), LOWER_SIDE)
    shapes += side_shapes(ends, kind in ("nor2", "nor3"), UPPER_SIDE)
    return shapes


def input_shapes(x):
    """Return the rectangles of an input."""
    return [
        upright("poly", x, 1, (6, 46)),
        upright("poly", x, 2, (21, 25)),
        upright("contact", x, 1, (22, 24)),
        upright("metal1", x, 2, (21, 31)),
        via_shape(x),
        pin_shape(x),
    ]


def output_shapes(x, z):
    """Return the rectangles of the output, whose metal1 is at x and whose pin is at z."""
    return [
        upright("metal1", x, 2, (15, 37)),
        ("metal1", x - 2, 27, z + 2, 31),
        via_shape(z),
        pin_shape(z),
    ]


def side_shapes(ends, is_chain, side):
    """Return the rectangles of the ends at one side of a cell, and of what joins its outputs.

    ends is a list of the middles of the ends. In a chain only the first and the last one are
    connected, the last one to the output; otherwise each second one is.
    """
    contact, supply, output, joint = side
    outputs = ends[-1:] if is_chain else ends[1::2]
    shapes = []
    for x in ends:
        if x in outputs:
            shapes.append(upright("contact", x, 1, contact))
            shapes.append(upright("metal1", x, 2, output))
        elif x == ends[0] or not is_chain:
            shapes.append(upright("contact", x, 1, contact))
            shapes.append(upright("metal1", x, 2, supply))
    shapes.append(("metal1", outputs[0] - 2, joint[0], ends[-1] + 2, joint[1]))
    return shapes
