"""Reading the circuit back from the masks (points 47 to 51)."""

from gatesread.checking import is_clean
from gatesread.errors import BrokenMasks, NoSuchThing
from gatesread.neighbours import Neighbours
from gatesread.pieces import crossing_polys, number_groups, piece_groups, rectangle_pieces
from gatesread.rectangles import holds_place
from gatesread.shapes import shape_numbers

NODE_LAYERS = ("ndiff", "pdiff", "poly", "metal1", "metal2")
DIFFUSIONS = ("ndiff", "pdiff")
TRANSISTOR_KINDS = {"ndiff": "n", "pdiff": "p"}


class Readback:
    """What stands in masks that are not broken: pieces, nodes, transistors, boxes, ports."""

    def __init__(self, rectangles, labels):
        if not is_clean(rectangles):
            raise BrokenMasks("the masks break a layout rule")
        masks = Neighbours(rectangles, 0)
        self._pieces = []
        self._firsts = []
        for a in range(len(masks.rectangles)):
            self._firsts.append(len(self._pieces))
            self._pieces += rectangle_pieces(masks, a)
        self._nodes = number_groups(piece_groups(self._pieces, masks.rectangles))
        self._transistors = self._find_transistors(masks)
        self._boxes = self._find_boxes(masks, labels)
        self._ports = self._find_ports(labels)

    def pieces(self):
        """Return the list of the pieces."""
        return list(self._pieces)

    def piece_nodes(self):
        """Return the list of the nodes of the pieces."""
        return list(self._nodes)

    def node_count(self):
        """Return the number of nodes."""
        return max(self._nodes, default=-1) + 1

    def transistors(self):
        """Return the list of the transistors as tuples of kind, gate, left and right."""
        return list(self._transistors)

    def boxes(self):
        """Return the list of the boxes as tuples of d, q and the number of a latch or None."""
        return list(self._boxes)

    def ports(self):
        """Return the list of the ports as tuples of kind, number and node or None."""
        return list(self._ports)

    def node_at(self, layer, x, y):
        """Return the node of a place on a layer, or None."""
        if layer not in NODE_LAYERS:
            raise NoSuchThing(f"no nodes are on {layer}")
        for piece, node in zip(self._pieces, self._nodes):
            if piece[0] == layer and holds_place(piece, x, y):
                return node
        return None

    def _node_of(self, a, part):
        """Return the node of a part of a rectangle, counted from its left."""
        return self._nodes[self._firsts[a] + part]

    def _find_transistors(self, masks):
        """Return the list of the transistors."""
        transistors = []
        for a in masks.numbers_on(DIFFUSIONS):
            kind = TRANSISTOR_KINDS[masks.rectangles[a][0]]
            for part, poly in enumerate(crossing_polys(masks, a)):
                gate = self._node_of(poly, 0)
                ends = self._node_of(a, part), self._node_of(a, part + 1)
                transistors.append((kind, gate, *ends))
        return transistors

    def _find_boxes(self, masks, labels):
        """Return the list of the boxes."""
        shapes = shape_numbers(masks.rectangles)
        boxes = []
        for a in masks.numbers_on(("latch",)):
            metals = masks.touching(a, ("metal2",))
            left, d = min([(masks.rectangles[b][1], b) for b in metals])
            others = [b for b in metals if shapes[b] != shapes[d]]
            latch = held_latch(masks.rectangles[a], labels)
            boxes.append((self._node_of(d, 0), self._node_of(others[0], 0), latch))
        return boxes

    def _find_ports(self, labels):
        """Return the list of the ports."""
        return [(kind, number, self.node_at("metal2", x, y))
                for kind, number, x, y in labels if kind != "latch"]


def held_latch(rectangle, labels):
    """Return the number of the first latch label in a rectangle, or None."""
    for kind, number, x, y in labels:
        if kind == "latch" and holds_place(rectangle, x, y):
            return number
    return None
