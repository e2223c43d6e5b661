"""Points 47 to 51: what stands in masks, read back from them."""

import unittest

import layouts
import samples
from gatesread.errors import BrokenMasks, NoSuchThing
from gatesread.readback import Readback
from rules import touch
from test_checking import CROSSED, LATCH, VIA
from test_shapes import shapes_by_words

DIFFUSIONS = ("ndiff", "pdiff")
WHOLE = ("poly", "metal1", "metal2")
NODE_LAYERS = ("ndiff", "pdiff", "poly", "metal1", "metal2")

# A diffusion that three polys cross, whose numbers are not in the order of their left sides.
THREE_CROSSED = [
    ("poly", 30, 8, 32, 16),
    ("pdiff", 0, 10, 60, 14),
    ("poly", 50, 5, 52, 18),
    ("metal1", 0, 10, 60, 14),
    ("poly", 10, 8, 14, 16),
]

# Of two diffusions with a poly over both, the upper one is the first; and a contact of the poly.
INVERTER = [
    ("pdiff", 0, 40, 20, 44),
    ("ndiff", 0, 8, 20, 12),
    ("poly", 9, 6, 11, 46),
    ("poly", 8, 21, 12, 25),
    ("contact", 9, 22, 11, 24),
    ("metal1", 8, 21, 12, 25),
    ("via", 9, 22, 11, 24),
    ("metal2", 8, 0, 12, 25),
    ("metal1", 15, 8, 19, 44),
    ("contact", 16, 41, 18, 43),
    ("contact", 16, 9, 18, 11),
    ("metal1", 1, 8, 5, 12),
    ("contact", 2, 9, 4, 11),
]


class ByWords:
    """Points 47 to 50, for masks that are not broken."""

    def __init__(self, rectangles, labels):
        self.rectangles = rectangles
        self.pieces = []
        self.parts = {}
        for k, rectangle in enumerate(rectangles):
            if rectangle[0] in DIFFUSIONS + WHOLE:
                self.parts[k] = []
                for part in self.cut(rectangle):
                    self.parts[k].append(len(self.pieces))
                    self.pieces.append(part)
        self.nodes = self.number_nodes()
        self.transistors = self.find_transistors()
        self.boxes = self.find_boxes(labels)

    def polys(self, rectangle):
        """The polys that touch a diffusion, from left to right, with their numbers."""
        found = [(r[1], k) for k, r in enumerate(self.rectangles) if r[0] == "poly" and touch(r, rectangle)]
        return [k for left, k in sorted(found)]

    def cut(self, rectangle):
        layer, left, bottom, right, top = rectangle
        if layer not in DIFFUSIONS:
            return [rectangle]
        sides = [left]
        for k in self.polys(rectangle):
            sides += [self.rectangles[k][1], self.rectangles[k][3]]
        sides.append(right)
        return [(layer, sides[k], bottom, sides[k + 1], top) for k in range(0, len(sides), 2)]

    def joined(self, a, b):
        if a[0] == b[0]:
            return a[0] in WHOLE and touch(a, b)
        if a[0] != "metal1":
            a, b = b, a
        if a[0] != "metal1":
            return False
        cut = "via" if b[0] == "metal2" else "contact"
        return any(r[0] == cut and self.within(r, a) and self.within(r, b) for r in self.rectangles)

    def within(self, inner, outer):
        return (inner[1] >= outer[1] and inner[2] >= outer[2]
                and inner[3] <= outer[3] and inner[4] <= outer[4])

    def number_nodes(self):
        groups = [{k} for k in range(len(self.pieces))]
        for a, one in enumerate(self.pieces):
            for b, other in enumerate(self.pieces[:a]):
                if self.joined(one, other):
                    both = groups[a] | groups[b]
                    for k in both:
                        groups[k] = both
        leasts = [min(group) for group in groups]
        return [sorted(set(leasts)).index(least) for least in leasts]

    def find_transistors(self):
        found = []
        for k, rectangle in enumerate(self.rectangles):
            if rectangle[0] in DIFFUSIONS:
                for place, poly in enumerate(self.polys(rectangle)):
                    gate = self.nodes[self.parts[poly][0]]
                    left, right = [self.nodes[part] for part in self.parts[k][place:place + 2]]
                    found.append((rectangle[0][0], gate, left, right))
        return found

    def find_boxes(self, labels):
        shapes = shapes_by_words(self.rectangles)
        found = []
        for rectangle in self.rectangles:
            if rectangle[0] == "latch":
                metals = [k for k, r in enumerate(self.rectangles) if r[0] == "metal2" and touch(r, rectangle)]
                first = sorted(metals, key=lambda k: (self.rectangles[k][1], k))[0]
                other = [k for k in metals if shapes[k] != shapes[first]][0]
                held = [n for kind, n, x, y in labels if kind == "latch"
                        and rectangle[1] <= x <= rectangle[3] and rectangle[2] <= y <= rectangle[4]]
                d, q = [self.nodes[self.parts[k][0]] for k in (first, other)]
                found.append((d, q, (held + [None])[0]))
        return found


class ReadbackTest(unittest.TestCase):
    def check(self, rectangles, pieces, nodes, transistors=()):
        with self.subTest(rectangles=rectangles):
            readback = Readback(rectangles, [])
            self.assertEqual(readback.pieces(), pieces)
            self.assertEqual(readback.piece_nodes(), nodes)
            self.assertEqual(readback.node_count(), len(set(nodes)))
            self.assertEqual(readback.transistors(), list(transistors))

    def check_by_words(self, rectangles, labels):
        with self.subTest(rectangles=rectangles):
            readback, words = Readback(rectangles, labels), ByWords(rectangles, labels)
            self.assertEqual(readback.pieces(), words.pieces)
            self.assertEqual(readback.piece_nodes(), words.nodes)
            self.assertEqual(readback.node_count(), max(words.nodes) + 1)
            self.assertEqual(readback.transistors(), words.transistors)
            self.assertEqual(readback.boxes(), words.boxes)


class PiecesTest(ReadbackTest):
    def test_nothing(self):
        readback = Readback([], [])
        for found in (readback.pieces(), readback.piece_nodes(), readback.transistors(),
                      readback.boxes(), readback.ports()):
            self.assertEqual(found, [])
        self.assertEqual(readback.node_count(), 0)
        self.assertIsNone(readback.node_at("metal1", 0, 0))

    def test_each_layer_alone(self):
        for layer in NODE_LAYERS:
            self.check([(layer, -2, -3, 4, 5)], [(layer, -2, -3, 4, 5)], [0])

    def test_contacts_vias_and_latches_are_no_pieces(self):
        self.check(VIA, VIA[1:], [0, 0])
        self.check(LATCH, LATCH[1:], [0, 1])

    def test_one_poly(self):
        pieces = [
            ("ndiff", 0, 10, 14, 14), ("ndiff", 16, 10, 30, 14), ("poly", 14, 8, 16, 16),
            ("metal1", 1, 10, 5, 14), ("metal1", 25, 10, 29, 14),
        ]
        self.check(CROSSED, pieces, [0, 1, 2, 0, 1], [("n", 2, 0, 1)])
        self.check(layouts.moved(CROSSED, -90, -70), layouts.moved(pieces, -90, -70),
                   [0, 1, 2, 0, 1], [("n", 2, 0, 1)])

    def test_several_polys(self):
        self.check(THREE_CROSSED, [
            ("poly", 30, 8, 32, 16),
            ("pdiff", 0, 10, 10, 14),
            ("pdiff", 14, 10, 30, 14),
            ("pdiff", 32, 10, 50, 14),
            ("pdiff", 52, 10, 60, 14),
            ("poly", 50, 5, 52, 18),
            ("metal1", 0, 10, 60, 14),
            ("poly", 10, 8, 14, 16),
        ], list(range(8)), [("p", 7, 1, 2), ("p", 0, 2, 3), ("p", 5, 3, 4)])

    def test_polys_beside_a_diffusion_do_not_cut_it(self):
        rectangles = [("ndiff", 0, 0, 20, 4), ("poly", 21, 0, 23, 4), ("poly", 0, 6, 20, 8)]
        self.check(rectangles, rectangles, [0, 1, 2])

    def test_one_poly_over_two_diffusions(self):
        self.check(INVERTER, [
            ("pdiff", 0, 40, 9, 44),
            ("pdiff", 11, 40, 20, 44),
            ("ndiff", 0, 8, 9, 12),
            ("ndiff", 11, 8, 20, 12),
            ("poly", 9, 6, 11, 46),
            ("poly", 8, 21, 12, 25),
            ("metal1", 8, 21, 12, 25),
            ("metal2", 8, 0, 12, 25),
            ("metal1", 15, 8, 19, 44),
            ("metal1", 1, 8, 5, 12),
        ], [0, 1, 2, 1, 3, 3, 3, 3, 1, 2], [("p", 3, 0, 1), ("n", 3, 2, 1)])

    def test_a_transistor_with_both_ends_on_one_node(self):
        ring = CROSSED + [("metal1", 1, 30, 29, 34), ("metal1", 1, 10, 5, 34), ("metal1", 25, 10, 29, 34)]
        readback = Readback(ring, [])
        self.assertEqual(readback.piece_nodes(), [0, 0, 1, 0, 0, 0, 0, 0])
        self.assertEqual(readback.transistors(), [("n", 1, 0, 0)])


class NodesTest(ReadbackTest):
    def check_nodes(self, rectangles, nodes):
        with self.subTest(rectangles=rectangles):
            readback = Readback(rectangles, [])
            self.assertEqual(readback.piece_nodes(), nodes)
            self.assertEqual(readback.node_count(), len(set(nodes)))

    def test_touching_pieces_of_one_layer(self):
        for layer in ("poly", "metal1", "metal2"):
            row = [(layer, 0, 0, 6, 6), (layer, 20, 0, 26, 6), (layer, 6, 0, 12, 6)]
            self.check_nodes(row, [0, 1, 0])
            self.check_nodes(row + [(layer, 12, 2, 20, 8)], [0, 0, 0, 0])
            self.check_nodes(row[::-1], [0, 1, 0])
            self.check_nodes([row[0], row[0]], [0, 0])

    def test_different_layers_do_not_join(self):
        self.check_nodes([("poly", 0, 0, 9, 9), ("metal1", 0, 0, 9, 9), ("metal2", 0, 0, 9, 9)],
                         [0, 1, 2])
        self.check_nodes([("metal1", 0, 0, 9, 9), ("ndiff", 0, 0, 9, 9)], [0, 1])

    def test_nodes_are_numbered_by_their_least_pieces(self):
        row = [("metal2", 20 * k, 0, 20 * k + 4, 4) for k in range(6)]
        joints = [("metal2", 80, 4, 84, 20), ("metal2", 20, 4, 24, 20), ("metal2", 20, 20, 84, 24)]
        self.check_nodes(row + joints, [0, 1, 2, 3, 1, 4, 1, 1, 1])
        self.check_nodes(joints[2:] + row + joints[:2], [0, 1, 0, 2, 3, 0, 4, 0, 0])

    def test_vias_and_contacts(self):
        metals = [("metal1", 0, 0, 9, 9), ("metal2", 0, 0, 9, 9)]
        self.check_nodes(metals + [("via", 3, 3, 5, 5)], [0, 0])
        self.check_nodes([("via", 3, 3, 5, 5)] + metals[::-1], [0, 0])
        for layer in ("poly", "ndiff", "pdiff"):
            base = [(layer, 0, 0, 9, 9), metals[0], ("contact", 3, 3, 5, 5), metals[1]]
            # The contact does not reach the metal2.
            self.check_nodes(base, [0, 0, 1])
            self.check_nodes(base[1:2] + base[3:] + base[:1] + base[2:3], [0, 1, 0])

    def test_a_via_does_not_reach_the_poly_below(self):
        self.check_nodes([("poly", 0, 0, 9, 9)] + VIA, [0, 1, 1])

    def test_cuts_that_only_one_of_two_pieces_covers(self):
        # The via lies within the left metal1; the right one is beside it, of another node.
        right = [("metal1", 10, 3, 16, 7)]
        self.check_nodes(VIA + right, [0, 0, 1])
        # A second metal2 above the right metal1, which has no via.
        self.check_nodes(VIA + right + [("metal2", 10, 3, 16, 7)], [0, 0, 1, 2])
        # A metal1 that crosses the poly of a contact, beside it.
        contact = [("contact", 4, 4, 6, 6), ("metal1", 3, 3, 7, 7), ("poly", 3, 3, 40, 7)]
        self.check_nodes(contact + [("metal1", 20, 0, 24, 20)], [0, 0, 1])
        self.check_nodes(contact + [("poly", 3, 20, 40, 24), ("metal1", 3, 20, 7, 24)], [0, 0, 1, 2])

    def test_a_contact_joins_only_its_part_of_a_diffusion(self):
        left = CROSSED[:4]
        self.check_nodes(left, [0, 1, 2, 0])
        # One metal1 over all of it, with a contact on the left only.
        self.check_nodes(CROSSED[:3] + [("metal1", 0, 10, 30, 14)], [0, 1, 2, 0])
        self.check_nodes(CROSSED[:2] + [CROSSED[4], ("metal1", 0, 10, 30, 14)], [0, 1, 2, 1])

    def test_connected_over_others(self):
        row = [("metal2", 0, 0, 9, 9), ("metal2", 40, 0, 49, 9), ("metal1", 0, 0, 49, 9),
               ("via", 3, 3, 5, 5), ("via", 42, 3, 44, 5)]
        self.check_nodes(row, [0, 0, 0])
        self.check_nodes(row[:4], [0, 1, 0])


class BoxesTest(unittest.TestCase):
    def check(self, rectangles, labels, expected):
        with self.subTest(rectangles=rectangles, labels=labels):
            self.assertEqual(Readback(rectangles, labels).boxes(), expected)
            there = layouts.moved(rectangles, -40, -60), layouts.moved_labels(labels, -40, -60)
            self.assertEqual(Readback(*there).boxes(), expected)

    def test_d_and_q(self):
        latch, left, right = LATCH
        self.check([latch, left, right], [], [(0, 1, None)])
        self.check([latch, right, left], [], [(1, 0, None)])
        self.check([right, left, latch], [], [(1, 0, None)])
        # Another metal2, which does not touch the latch, and wires of the left one.
        self.check([("metal2", -9, 0, -5, 9)] + LATCH, [], [(1, 2, None)])
        self.check([("metal2", 30, 20, 34, 40)] + LATCH + [("metal2", 30, 20, 34, 24)], [], [(1, 2, None)])

    def test_the_least_left_side(self):
        latch, left, right = LATCH
        # The right wire ends left of the left one, and touches the latch only on the right.
        around = [right, ("metal2", -30, 20, 16, 24), ("metal2", -30, 0, -26, 24)]
        around[0] = ("metal2", 12, -10, 16, 24)
        self.check([latch, ("metal2", 2, -10, 6, 16)] + around, [], [(0, 1, None)])
        # A metal2 that reaches farther left decides, though it has a greater number.
        self.check([latch, left, right, ("metal2", 1, 4, 6, 8)], [], [(0, 1, None)])
        self.check([latch, left, right, ("metal2", 12, 4, 30, 8), ("metal2", -9, 4, 6, 8)], [],
                   [(0, 1, None)])
        # Two shapes that begin at the same x: the first rectangle counts.
        lower, upper = ("metal2", 2, -10, 6, 3), ("metal2", 2, 6, 6, 20)
        self.check([latch, lower, upper], [], [(0, 1, None)])
        self.check([latch, upper, lower], [], [(0, 1, None)])
        self.check([upper, latch, lower], [], [(0, 1, None)])

    def test_d_and_q_of_one_node(self):
        # Another layer connects the two shapes.
        bridge = [("metal1", 0, 14, 20, 18)]
        vias = [("via", 3, 15, 5, 17), ("via", 13, 15, 15, 17)]
        self.check(LATCH + bridge + vias, [], [(0, 0, None)])
        self.check(LATCH + bridge + vias[:1], [], [(0, 1, None)])

    def test_labels(self):
        for x, y in ((10, 5), (0, 0), (20, 10), (0, 10), (20, 0), (0, 5), (20, 3), (7, 0), (9, 10)):
            self.check(LATCH, [("latch", 3, x, y)], [(0, 1, 3)])
        for x, y in ((-1, 5), (21, 5), (10, -1), (10, 11), (30, 30)):
            self.check(LATCH, [("latch", 3, x, y)], [(0, 1, None)])
        self.check(LATCH, [("latch", 0, 10, 5)], [(0, 1, 0)])

    def test_other_labels_do_not_count(self):
        labels = [("input", 1, 10, 5), ("output", 2, 10, 5), ("ground", 0, 10, 5), ("power", 0, 10, 5)]
        self.check(LATCH, labels, [(0, 1, None)])
        self.check(LATCH, labels + [("latch", 7, 9, 4)], [(0, 1, 7)])

    def test_several_labels(self):
        self.check(LATCH, [("latch", 3, 10, 5), ("latch", 1, 9, 4)], [(0, 1, 3)])
        self.check(LATCH, [("latch", 9, 10, 11), ("latch", 1, 9, 4), ("latch", 0, 9, 4)], [(0, 1, 1)])

    def test_several_boxes(self):
        other = layouts.moved(LATCH, 40, 5)
        labels = [("latch", 2, 50, 10), ("latch", 0, 10, 5)]
        self.check(LATCH + other, labels, [(0, 1, 0), (2, 3, 2)])
        self.check(other + LATCH, labels, [(0, 1, 2), (2, 3, 0)])

    def test_two_boxes_that_hold_one_latch(self):
        sheet = layouts.Layout(4)
        sheet.twin_boxes((0, 1), (2, 3), 5)
        self.check(*sheet.masks(), [(0, 1, 5), (2, 3, 5)])


class PlacesTest(unittest.TestCase):
    def test_edges_are_included(self):
        for layer in NODE_LAYERS:
            readback = Readback([(layer, 2, 3, 8, 9)], [])
            for x, y in ((5, 5), (2, 3), (8, 9), (2, 9), (8, 3), (2, 5), (8, 5), (5, 3), (5, 9)):
                self.assertEqual(readback.node_at(layer, x, y), 0)
            for x, y in ((1, 5), (9, 5), (5, 2), (5, 10), (1, 2), (9, 10), (-5, -5)):
                self.assertIsNone(readback.node_at(layer, x, y))

    def test_negative_places(self):
        readback = Readback([("poly", -8, -9, -2, -3)], [])
        self.assertEqual(readback.node_at("poly", -8, -3), 0)
        self.assertIsNone(readback.node_at("poly", 8, 3))

    def test_only_the_layer_counts(self):
        rectangles = [("poly", 0, 0, 9, 9), ("metal1", 0, 0, 9, 9), ("metal2", 0, 0, 9, 9)]
        readback = Readback(rectangles, [])
        for node, layer in enumerate(("poly", "metal1", "metal2")):
            self.assertEqual(readback.node_at(layer, 4, 4), node)
        for layer in ("ndiff", "pdiff"):
            self.assertIsNone(readback.node_at(layer, 4, 4))

    def test_parts_of_a_diffusion(self):
        readback = Readback(CROSSED, [])
        self.assertEqual(readback.node_at("ndiff", 14, 12), 0)
        self.assertIsNone(readback.node_at("ndiff", 15, 12))
        self.assertEqual(readback.node_at("ndiff", 16, 12), 1)
        self.assertEqual(readback.node_at("poly", 15, 12), 2)
        self.assertIsNone(readback.node_at("pdiff", 14, 12))

    def test_several_pieces_at_a_place(self):
        readback = Readback([("metal2", 0, 0, 30, 4), ("metal2", 10, -9, 14, 9)], [])
        self.assertEqual(readback.node_at("metal2", 12, 2), 0)

    def test_layers_without_nodes(self):
        readback = Readback(CROSSED + layouts.moved(LATCH, 50, 0), [])
        for layer in ("contact", "via", "latch", "metal", "metal3", ""):
            with self.assertRaises(NoSuchThing):
                readback.node_at(layer, 3, 12)

    def test_ports(self):
        rectangles = [("metal1", 0, 0, 40, 40), ("metal2", 0, 0, 4, 4), ("metal2", 10, 0, 14, 4),
                      ("latch", 2, 2, 12, 4)]
        labels = [
            ("output", 3, 12, 2), ("latch", 2, 5, 3), ("power", 0, 4, 4), ("input", 1, 5, 2),
            ("input", 0, 10, 0), ("latch", 0, 2, 2), ("output", 0, 2, 2), ("ground", 0, -1, 2),
        ]
        self.assertEqual(Readback(rectangles, labels).ports(), [
            ("output", 3, 2), ("power", 0, 1), ("input", 1, None),
            ("input", 0, 2), ("output", 0, 1), ("ground", 0, None),
        ])

    def test_ports_without_metal2(self):
        labels = [("power", 0, 2, 2), ("latch", 4, 2, 2), ("input", 2, 2, 2)]
        expected = [("power", 0, None), ("input", 2, None)]
        for rectangles in ([], [("metal1", 0, 0, 4, 4)], [("poly", 0, 0, 4, 4)]):
            self.assertEqual(Readback(rectangles, labels).ports(), expected)


class WholeTest(ReadbackTest):
    def test_broken_masks(self):
        broken = [
            [("metal1", 0, 0, 2, 9)],
            [("metal1", 0, 0, 9, 9), ("metal1", 11, 0, 19, 9)],
            [("pdiff", 0, 0, 9, 9), ("ndiff", 0, 18, 9, 27)],
            VIA[:2],
            [("ndiff", 0, 0, 20, 4), ("poly", 2, -2, 4, 6)],
            [("ndiff", 0, 0, 20, 4), ("poly", 9, -2, 11, 6), ("poly", 9, -2, 11, 6)],
            LATCH[:2],
        ]
        for rectangles in broken:
            for labels in ([], [("power", 0, 2, 2)]):
                with self.subTest(rectangles=rectangles), self.assertRaises(BrokenMasks):
                    Readback(rectangles, labels)

    def test_layouts(self):
        transistors = [("n", 2, 0, 3), ("n", 3, 3, 3), ("p", 2, 3, 1), ("p", 0, 1, 0)]
        ports = [("ground", 0, 0), ("power", 0, 1), ("input", 4, None), ("output", 2, 3)]
        boxes = [(3, 2, 1), (0, 3, None)]
        rectangles, labels = layouts.layout(5, transistors, ports, boxes)
        readback = Readback(rectangles, labels)
        self.assertEqual(readback.node_count(), 5)
        self.assertEqual(readback.transistors(), transistors)
        self.assertEqual(readback.ports(), ports)
        self.assertEqual(readback.boxes(), boxes)
        self.check_by_words(rectangles, labels)

    def test_cells(self):
        for kind, count in samples.INPUT_COUNTS.items():
            circuit = (3, ((kind, tuple(range(count)), 3),), (3,), (2,) * (kind == "latch"))
            self.check_by_words(*layouts.drawn(circuit))
            readback = Readback(*layouts.drawn(circuit))
            kinds = [transistor[0] for transistor in readback.transistors()]
            logic = 0 if kind in ("latch", "tie0", "tie1") else count
            self.assertEqual(kinds, ["n"] * logic + ["p"] * logic)

    def test_masks_of_circuits(self):
        for circuit, placement in samples.some_placements()[::6]:
            rectangles, labels = layouts.drawn(circuit, placement)
            self.check_by_words(rectangles, labels)
            self.check_by_words(rectangles[::-1], labels[::-1])

    def test_forty_cells(self):
        circuit = samples.arbitrary_circuit(2, 6, 40, 4)
        placement = samples.arbitrary_placement(2, circuit, 6)
        rectangles, labels = layouts.drawn(circuit, placement)
        readback = Readback(rectangles, labels)
        logic = [kind for kind, sources, output in circuit[1] if kind not in ("latch", "tie0", "tie1")]
        count = sum(samples.INPUT_COUNTS[kind] for kind in logic)
        self.assertEqual(len(readback.transistors()), 2 * count)
        self.assertEqual([box[2] for box in sorted(readback.boxes(), key=lambda box: box[2])],
                         [0, 1, 2, 3])
        # Each net but those of ties has a node, and so has each inner end of a nand or nor.
        inner = sum(samples.INPUT_COUNTS[kind] - 1 for kind in logic)
        self.assertEqual(readback.node_count(), 2 + 6 + len(logic) + 4 + inner)

    def test_arguments_and_results_are_not_kept(self):
        rectangles, labels = INVERTER + layouts.moved(LATCH, 60, 0), [("latch", 1, 70, 5), ("power", 0, 9, 9)]
        copies = list(rectangles), list(labels)
        readback = Readback(rectangles, labels)
        self.assertEqual((rectangles, labels), copies)
        rectangles.clear()
        labels.clear()
        methods = (readback.pieces, readback.piece_nodes, readback.transistors, readback.boxes, readback.ports)
        for method in methods:
            found = method()
            self.assertTrue(found)
            method().clear()
            self.assertEqual(method(), found)
        self.assertEqual(readback.boxes(), [(4, 5, 1)])
        self.assertEqual(readback.ports(), [("power", 0, 3)])
        self.assertEqual(readback.node_count(), 6)
        self.assertEqual(readback.node_at("metal2", 9, 9), 3)
        self.assertEqual(Readback(*copies).pieces(), readback.pieces())


if __name__ == "__main__":
    unittest.main()
