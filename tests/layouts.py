"""Masks that several tests use: of circuits, and of any transistors, ports and boxes."""

from gatesread.arranging import arrange
from gatesread.channels import route
from gatesread.masks import draw_masks

BESIDE = -1000


def drawn(circuit, placement=None):
    """The masks of a circuit with a placement, by default with all cells in one row."""
    if placement is None:
        placement = [list(range(len(circuit[1])))]
    arrangement = arrange(circuit, placement)
    return draw_masks(circuit, arrangement, route(circuit, arrangement))


def moved(rectangles, right, up):
    return [(layer, a + right, b + up, c + right, d + up) for layer, a, b, c, d in rectangles]


def moved_labels(labels, right, up):
    return [(kind, number, x + right, y + up) for kind, number, x, y in labels]


def upright(layer, x, half, bottom, top):
    return layer, x - half, bottom, x + half, top


class Layout:
    """Clean masks of any transistors, ports and boxes between nodes that are given as numbers.

    Each node has a track of metal1; the tracks are the first rectangles, so that a Readback gives
    the nodes the same numbers. What is connected to a track stands above all tracks.
    """

    def __init__(self, node_count):
        self.tracks = node_count
        self.bottom = 8 * node_count
        self.rectangles = []
        self.labels = []
        self.x = 0

    def wire(self, x, node, top):
        """A metal2 from the track of a node up to a height."""
        y = 8 * node
        self.rectangles.append(upright("metal2", x, 2, y, top))
        self.rectangles.append(upright("via", x, 1, y + 1, y + 3))

    def terminal(self, x, node, y):
        """A contact at a height, connected to a node."""
        self.rectangles.append(upright("contact", x, 1, y + 1, y + 3))
        self.rectangles.append(upright("metal1", x, 2, y, y + 4))
        self.rectangles.append(upright("via", x, 1, y + 1, y + 3))
        self.wire(x, node, y + 4)

    def transistor(self, kind, gate, left, right):
        x, y = self.x, self.bottom
        self.rectangles.append((kind + "diff", x - 2, y + 8, x + 18, y + 12))
        self.terminal(x, left, y + 8)
        self.rectangles.append(upright("poly", x + 8, 1, y + 6, y + 26))
        self.rectangles.append(upright("poly", x + 8, 2, y + 21, y + 25))
        self.terminal(x + 8, gate, y + 21)
        self.terminal(x + 16, right, y + 8)
        self.x += 32

    def port(self, kind, number, node):
        place = (BESIDE, BESIDE)
        if node is not None:
            self.wire(self.x, node, self.bottom + 4)
            place = (self.x, self.bottom + 2)
            self.x += 8
        self.labels.append((kind, number, *place))

    def box(self, d, q, latch):
        x, y = self.x, self.bottom
        self.rectangles.append(("latch", x - 4, y + 8, x + 12, y + 20))
        self.wire(x, d, y + 20)
        self.wire(x + 8, q, y + 20)
        if latch is not None:
            self.labels.append(("latch", latch, x + 4, y + 14))
        self.x += 32

    def twin_boxes(self, first, second, latch):
        """Two boxes (d, q) that have only a corner in common, where the label of a latch is."""
        x, y = self.x, self.bottom
        self.rectangles.append(("latch", x - 4, y + 8, x + 12, y + 20))
        self.wire(x, first[0], y + 20)
        self.wire(x + 8, first[1], y + 20)
        self.rectangles.append(("latch", x + 12, y + 20, x + 28, y + 32))
        self.wire(x + 16, second[0], y + 32)
        self.wire(x + 24, second[1], y + 32)
        self.labels.append(("latch", latch, x + 12, y + 20))
        self.x += 48

    def masks(self):
        """The list of rectangles and the list of labels."""
        tracks = [("metal1", -8, 8 * node, self.x + 8, 8 * node + 4) for node in range(self.tracks)]
        return tracks + self.rectangles, list(self.labels)


def layout(node_count, transistors, ports, boxes=()):
    """Masks that read back as these transistors, ports and boxes, n transistors ahead of p ones."""
    sheet = Layout(node_count)
    for transistor in transistors:
        sheet.transistor(*transistor)
    for port in ports:
        sheet.port(*port)
    for box in boxes:
        sheet.box(*box)
    return sheet.masks()
