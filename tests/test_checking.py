"""Point 46: the layout rules."""

import unittest

import layouts
import samples
from gatesread.cellshapes import cell_rectangles, feed_rectangles
from gatesread.checking import find_breaches, is_clean
from rules import breaches_by_words
from test_shapes import arbitrary_rectangles

NOT = (1, (("not", (0,), 1),), (1,), ())
LATCH_AND_NOR = (2, (("nor2", (0, 1), 2), ("latch", (2,), 3)), (3,), (0,))

# A piece of ndiff that a poly crosses, with a contact on either side.
CROSSED = [
    ("ndiff", 0, 10, 30, 14),
    ("poly", 14, 8, 16, 16),
    ("contact", 2, 11, 4, 13),
    ("metal1", 1, 10, 5, 14),
    ("contact", 26, 11, 28, 13),
    ("metal1", 25, 10, 29, 14),
]
# A latch with its two wires.
LATCH = [("latch", 0, 0, 20, 10), ("metal2", 2, -10, 6, 20), ("metal2", 12, -10, 16, 20)]
# A via between a metal1 and a metal2.
VIA = [("via", 4, 4, 6, 6), ("metal1", 3, 3, 7, 7), ("metal2", 3, 3, 7, 7)]


class BreachesTest(unittest.TestCase):
    def check(self, rectangles, expected):
        with self.subTest(rectangles=rectangles):
            self.assertEqual(find_breaches(rectangles), expected)
            self.assertIs(is_clean(rectangles), expected == [])
            self.assertEqual(find_breaches(layouts.moved(rectangles, -500, -300)), expected)

    def changed(self, rectangles, number, sides):
        """The rectangles, of which one has other sides."""
        found = list(rectangles)
        found[number] = (found[number][0], *sides)
        return found


class SizesTest(BreachesTest):
    def test_nothing(self):
        self.check([], [])

    def test_least_widths(self):
        for layer, least in {"metal1": 3, "ndiff": 4, "pdiff": 4, "metal2": 4, "poly": 2}.items():
            self.check([(layer, 0, 0, least, least)], [])
            self.check([(layer, 0, 0, least + 9, least + 8)], [])
            self.check([(layer, 0, 0, least - 1, 50)], [(1, 0, None)])
            self.check([(layer, 0, 0, 50, least - 1)], [(1, 0, None)])
            self.check([(layer, 0, 0, least - 1, least - 1)], [(1, 0, None)])

    def test_contacts_and_vias_are_2_wide_and_2_high(self):
        metals = [("metal1", 0, 0, 20, 20), ("metal2", 0, 0, 20, 20)]
        for layer, others in {"via": metals, "contact": metals + [("poly", 0, 0, 20, 20)]}.items():
            count = len(others)
            self.check(others + [(layer, 5, 5, 7, 7)], [])
            for width, height in ((1, 2), (2, 1), (3, 2), (2, 3), (3, 3), (1, 1), (4, 1), (1, 4)):
                cut = (layer, 5, 5, 5 + width, 5 + height)
                self.check(others + [cut], [(1, count, None)])

    def test_latches_of_any_size(self):
        wires = [("metal2", 0, 0, 4, 9), ("metal2", 7, 0, 11, 9)]
        self.check(wires + [("latch", 4, 3, 7, 4)], [])
        self.check(wires + [("latch", 3, 8, 8, 99)], [])


class DistancesTest(BreachesTest):
    def test_least_distances_of_shapes(self):
        for layer, least in {"metal1": 3, "metal2": 3, "ndiff": 3, "pdiff": 3, "poly": 2}.items():
            for right, up in ((6, 0), (0, 6), (6, 6), (-6, 3), (-6, -6)):
                for distance in range(5):
                    x = right + distance * (right > 0) - distance * (right < 0)
                    y = up + distance * (up > 0) - distance * (up < 0)
                    pair = [(layer, 0, 0, 6, 6), (layer, x, y, x + 6, y + 6)]
                    close = distance < least and (distance > 0 or abs(x) == 6 == abs(y))
                    lonely = layer in ("ndiff", "pdiff") and distance == 0
                    self.check(pair, [(2, 0, 1)] if close or lonely else [])

    def test_corners_in_common(self):
        for layer in ("metal1", "metal2", "ndiff", "pdiff", "poly"):
            self.check([(layer, 0, 0, 6, 6), (layer, 6, 6, 12, 12)], [(2, 0, 1)])
            self.check([(layer, 6, 0, 12, 6), (layer, 0, 6, 6, 12)], [(2, 0, 1)])

    def test_contacts_and_vias(self):
        wide = [("metal1", 0, 0, 90, 90), ("metal2", 0, 0, 90, 90), ("poly", 0, 0, 90, 90)]
        for layer, least in {"contact": 2, "via": 3}.items():
            for distance in range(5):
                for right, up in ((1, 0), (0, 1), (1, 1), (-1, 1)):
                    x, y = 20 + right * (distance + 2), 20 + up * (distance + 2)
                    pair = [(layer, 20, 20, 22, 22), (layer, x, y, x + 2, y + 2)]
                    self.check(wide + pair, [(2, 3, 4)] if distance < least else [])
            # Overlapping ones and equal ones belong to one shape, but they touch.
            self.check(wide + [(layer, 20, 20, 22, 22), (layer, 21, 21, 23, 23)], [(2, 3, 4)])
            self.check(wide + [(layer, 20, 20, 22, 22)] * 2, [(2, 3, 4)])

    def test_one_shape_may_come_close_to_itself(self):
        for layer in ("metal1", "metal2", "poly"):
            bow = [(layer, 0, 0, 4, 20), (layer, 5, 0, 9, 20), (layer, 0, 20, 9, 24)]
            self.check(bow, [])
            self.check(bow[:2], [(2, 0, 1)])
            self.check([(layer, 0, 0, 4, 20)] * 3, [])

    def test_touching_rectangles_of_a_lonely_layer(self):
        for layer in ("ndiff", "pdiff"):
            self.check([(layer, 0, 0, 9, 9), (layer, 9, 0, 20, 9)], [(2, 0, 1)])
            self.check([(layer, 0, 0, 9, 9), (layer, 2, 2, 6, 6)], [(2, 0, 1)])
            self.check([(layer, 0, 0, 9, 9)] * 3, [(2, 0, 1), (2, 0, 2), (2, 1, 2)])
            # The first and the last one are of one shape and do not touch.
            row = [(layer, 0, 0, 9, 9), (layer, 9, 0, 11, 20), (layer, 11, 0, 20, 9)]
            self.check(row, [(1, 1, None), (2, 0, 1), (2, 1, 2)])

    def test_latches_touch(self):
        other = [("latch", 20, 5, 40, 15), ("metal2", 24, 0, 28, 20), ("metal2", 34, 0, 38, 20)]
        self.check(LATCH + other, [(2, 0, 3)])
        self.check(LATCH + layouts.moved(other, -2, 0), [(2, 0, 3)])
        # Latches that do not touch may be as close as they like.
        self.check(LATCH + layouts.moved(other, 0, 5), [])
        self.check(LATCH + layouts.moved(other, 1, 0), [])

    def test_between_ndiff_and_pdiff(self):
        for right, up in ((1, 0), (0, 1), (1, 1), (-1, 0), (0, -1), (-1, 1)):
            for distance in (0, 1, 2, 9, 10, 11):
                x, y = right * (6 + distance), up * (6 + distance)
                n, p = ("ndiff", 0, 0, 6, 6), ("pdiff", x, y, x + 6, y + 6)
                self.check([n, p], [(2, 0, 1)] if distance < 10 else [])
                # The ndiff comes first, also if its number is greater.
                self.check([p, n], [(2, 1, 0)] if distance < 10 else [])
        self.check([("pdiff", 0, 0, 6, 6), ("ndiff", 0, 0, 6, 6)], [(2, 1, 0)])

    def test_other_layers_do_not_count(self):
        layers = ("metal1", "metal2", "poly")
        self.check([(layer, 0, 0, 6, 6) for layer in layers], [])
        self.check([(layer, 8 * k, 0, 8 * k + 6, 6) for k, layer in enumerate(layers)], [])
        self.check([("metal1", 0, 0, 6, 6), ("ndiff", 0, 0, 6, 6), ("metal2", 7, 0, 13, 6)], [])

    def test_order(self):
        row = [("metal1", 0, 0, 4, 4), ("pdiff", 0, 20, 4, 24), ("metal1", 5, 0, 9, 4),
               ("ndiff", 0, 30, 4, 34), ("metal1", 2, 5, 6, 9), ("pdiff", 0, 42, 4, 46)]
        self.check(row, [(2, 0, 2), (2, 0, 4), (2, 2, 4), (2, 3, 1), (2, 3, 5)])


class CutsTest(BreachesTest):
    def test_what_surrounds_a_via(self):
        self.check(VIA, [])
        for number in (1, 2):
            for side in range(4):
                sides = list(VIA[number][1:])
                sides[side] += 1 if side < 2 else -1
                # A metal2 that is too small for the via is also too narrow.
                small = [(1, 2, None)] if number == 2 else []
                self.check(self.changed(VIA, number, sides), small + [(3, 0, None)])
                sides[(side + 2) % 4] += 9 if side < 2 else -9
                self.check(self.changed(VIA, number, sides), [(3, 0, None)])
        self.check(VIA[:2], [(3, 0, None)])
        self.check([VIA[0], VIA[2]], [(3, 0, None)])
        self.check(VIA + VIA[1:], [])
        self.check(VIA + [("poly", 0, 0, 20, 20)], [])
        self.check(VIA[:2] + [("poly", 0, 0, 20, 20)], [(3, 0, None)])

    def test_what_surrounds_a_contact(self):
        for layer in ("poly", "ndiff", "pdiff"):
            base = [("contact", 4, 4, 6, 6), ("metal1", 3, 3, 7, 7), (layer, 3, 3, 7, 7)]
            self.check(base, [])
            self.check(base[:2], [(3, 0, None)])
            self.check([base[0], base[2]], [(3, 0, None)])
            self.check(base + [base[1]], [])
            for number in (1, 2):
                for side in range(4):
                    sides = list(base[number][1:])
                    sides[side] += 1 if side < 2 else -1
                    sides[(side + 2) % 4] += 9 if side < 2 else -9
                    self.check(self.changed(base, number, sides), [(3, 0, None)])
            # A metal2 does not help.
            self.check(base[:2] + [("metal2", 0, 0, 20, 20)], [(3, 0, None)])

    def test_a_contact_within_two(self):
        base = [("contact", 4, 4, 6, 6), ("metal1", 3, 3, 7, 7)]
        self.check(base + [("poly", 3, 3, 7, 7)] * 2, [(3, 0, None)])
        self.check(base + [("poly", 3, 3, 7, 7), ("poly", 0, 0, 9, 9)], [(3, 0, None)])
        # The second poly touches the first one and does not surround the contact.
        self.check(base + [("poly", 3, 3, 7, 7), ("poly", 4, 3, 9, 9)], [])
        self.check(base + [("poly", 3, 3, 7, 7), ("ndiff", 3, 3, 7, 7)],
                   [(3, 0, None), (4, 3, 2), (5, 0, 2)])

    def test_parts_that_only_together_surround(self):
        halves = [("metal1", 3, 3, 7, 6), ("metal1", 3, 5, 7, 8)]
        self.check([("via", 4, 4, 6, 6), ("metal2", 3, 3, 7, 7)] + halves, [(3, 0, None)])


class CrossingsTest(BreachesTest):
    def test_a_crossing(self):
        self.check(CROSSED, [])
        self.check(self.changed(CROSSED, 1, (14, 7, 16, 40)), [])
        self.check(self.changed(CROSSED, 1, (14, 9, 16, 16)), [(4, 0, 1)])
        self.check(self.changed(CROSSED, 1, (14, 8, 16, 15)), [(4, 0, 1)])
        self.check(self.changed(CROSSED, 1, (14, -9, 16, 12)), [(4, 0, 1)])

    def test_the_ends_of_the_diffusion(self):
        for layer in ("ndiff", "pdiff"):
            for left in range(-4, 5):
                for right in (8, 9, 10, 11):
                    pair = [(layer, 0, 0, right + 3, 4), ("poly", left, -2, right, 9)]
                    self.check(pair, [] if left >= 3 else [(4, 0, 1)])
                    pair = [(layer, -right - 3, 0, 0, 4), ("poly", -right, -2, -left, 9)]
                    self.check(pair, [] if left >= 3 else [(4, 0, 1)])

    def test_a_poly_beside_a_diffusion(self):
        diffusion = ("ndiff", 0, 0, 20, 4)
        for sides in ((20, 0, 22, 4), (20, 4, 22, 6), (5, 4, 7, 9), (-2, -2, 0, 0), (-9, 4, 99, 6)):
            self.check([diffusion, ("poly", *sides)], [(4, 0, 1)])
            self.check([("poly", *sides), diffusion], [(4, 1, 0)])
        for sides in ((21, 0, 23, 4), (21, 5, 23, 7), (5, 5, 7, 9), (-9, -9, 99, -1)):
            self.check([diffusion, ("poly", *sides)], [])

    def test_polys_that_are_close_in_x(self):
        diffusion = ("pdiff", 0, 0, 60, 4)
        first = ("poly", 10, -2, 12, 6)
        for distance in range(4):
            x = 12 + distance
            other = ("poly", x, -2, x + 2, 6)
            found = [(5, 0, 2)] if distance < 2 else []
            # Two polys of different shapes must not be so close anyway.
            close = [(2, 1, 2)] if distance == 1 else []
            self.check([diffusion, first, other], close + found)
            self.check([diffusion, other, first], close + found)
        self.check([diffusion, first, first], [(5, 0, 2)])
        self.check([diffusion, first, ("poly", 11, -9, 30, 9)], [(5, 0, 2)])

    def test_the_lesser_numbers_count(self):
        diffusion = ("pdiff", 0, 0, 60, 4)
        polys = [("poly", x, -2, x + 2, 6) for x in (10, 20, 9, 30, 21, 8)]
        expected = [(5, 0, 3), (5, 0, 5), (5, 0, 6)]
        self.check([diffusion] + polys, expected)
        # The last three are far apart in y, where they touch the tall diffusion.
        tall = [("ndiff", 0, 0, 60, 90), ("poly", 10, -9, 12, 99)]
        self.check(tall + [("poly", 20, -9, 22, 0), ("poly", 20, 90, 22, 99)],
                   [(4, 0, 2), (4, 0, 3), (5, 0, 3)])
        self.check(tall + [("poly", 20, -9, 22, 0), ("poly", 20, 91, 22, 99)], [(4, 0, 2)])
        # Only a corner of the first poly belongs to the diffusion: it does not touch it.
        self.check([("ndiff", 0, 0, 60, 4), ("poly", -2, 4, 0, 9), ("poly", 0, 4, 2, 9)],
                   [(4, 0, 1), (4, 0, 2)])

    def test_contacts_beside_polys(self):
        contact = CROSSED[4:]
        for x in range(16, 26):
            poly = ("poly", x - 2, 8, x, 16)
            found = [(5, 2, 1)] if x > 24 else []
            self.check([CROSSED[0], poly] + contact, found)
        # From above.
        for y in (13, 14, 15, 16):
            poly = ("poly", 22, y, 40, y + 5)
            found = [(4, 0, 1)] if y < 15 else []
            found += [(5, 2, 1)] if y < 15 else []
            self.check([CROSSED[0], poly] + contact, found)
        # A via that a diffusion surrounds may be close to a poly, like the metals over it.
        wide = [("ndiff", 0, 0, 30, 20), ("poly", 7, -2, 9, 22), ("metal2", 20, 6, 24, 10)]
        self.check(wide + VIA + [("poly", 11, -2, 13, 22)], [])
        # A contact that no diffusion surrounds may be close to another poly.
        base = [("contact", 4, 4, 6, 6), ("metal1", 3, 3, 7, 7), ("poly", 3, 3, 7, 7)]
        self.check(base, [])
        self.check(base + [("poly", 7, 3, 9, 7)], [])
        # Not in contact with a diffusion, but with a poly that another poly comes close to.
        self.check(base + [("poly", 8, 3, 10, 7)], [(2, 2, 3)])


class LatchesTest(BreachesTest):
    def test_shapes_that_touch_a_latch(self):
        latch, d, q = LATCH
        self.check(LATCH, [])
        self.check([latch], [(6, 0, None)])
        self.check([latch, d], [(6, 0, None)])
        self.check([latch, d, q, ("metal2", 22, 0, 26, 9)], [])
        self.check([latch, d, q, ("metal2", 20, 0, 24, 9)], [(6, 0, None)])
        self.check([latch, d, q, ("metal2", 20, 10, 24, 19)], [])
        self.check([latch, d, ("metal2", 20, 0, 24, 9)], [])
        self.check([latch, d, ("metal2", 21, 0, 25, 9)], [(6, 0, None)])

    def test_several_rectangles_of_one_shape(self):
        latch, d, q = LATCH
        self.check([latch, d, q, d, q], [])
        self.check([latch, d, q, ("metal2", 0, 15, 20, 19)], [(6, 0, None)])
        # The bow does not touch the latch itself.
        bow = [("metal2", 12, 20, 40, 24), ("metal2", 36, 0, 40, 24)]
        self.check([latch, d, q] + bow, [])
        self.check([latch, d] + layouts.moved(bow, -14, 0), [(6, 0, None)])

    def test_other_layers_do_not_count(self):
        latch, d, q = LATCH
        self.check([latch, d, ("metal1", 12, -10, 16, 20)], [(6, 0, None)])
        self.check([latch, d, q, ("metal1", 9, -10, 12, 20), ("poly", 9, 0, 12, 5)], [])


class WholeTest(BreachesTest):
    def test_order_of_the_rules(self):
        rectangles = [
            ("latch", 0, 0, 20, 10),
            ("contact", 40, 40, 42, 42),
            ("poly", 0, 30, 1, 40),
            ("ndiff", 0, 60, 9, 64),
            ("poly", 2, 58, 4, 66),
            ("poly", 4, 58, 6, 66),
            ("pdiff", 0, 70, 9, 74),
        ]
        self.check(rectangles, [
            (1, 2, None), (2, 3, 6), (3, 1, None), (4, 3, 4), (5, 3, 5), (6, 0, None),
        ])

    def test_cells_and_feeds_alone(self):
        for kind in samples.INPUT_COUNTS:
            self.check(cell_rectangles(kind, 3, -7), [])
        self.check(feed_rectangles(2, 5), [])

    def test_masks_of_circuits(self):
        for circuit, placement in samples.some_placements():
            rectangles, labels = layouts.drawn(circuit, placement)
            self.check(rectangles, [])

    def test_masks_of_wide_circuits(self):
        for seed in range(3):
            circuit = samples.arbitrary_circuit(seed, 6, 40, 4)
            for row_count in (1, 6):
                placement = samples.arbitrary_placement(seed, circuit, row_count)
                self.assertEqual(find_breaches(layouts.drawn(circuit, placement)[0]), [])

    def test_arbitrary_rectangles(self):
        rules = set()
        for seed in range(300):
            rectangles = arbitrary_rectangles(seed, 4 + seed % 25, 20 + seed % 30)
            expected = breaches_by_words(rectangles)
            rules.update(breach[0] for breach in expected)
            self.check(rectangles, expected)
        self.assertEqual(rules, {1, 2, 3, 4, 5, 6})

    def check_changes(self, rectangles, seed):
        """Check masks with each rectangle a bit larger, smaller or elsewhere, or left out."""
        numbers = samples.Numbers(seed)
        for k, (layer, *sides) in enumerate(rectangles):
            self.check_by_words(rectangles[:k] + rectangles[k + 1:])
            changed = list(sides)
            changed[numbers.below(4)] += (-3, -2, -1, 1, 2, 3)[numbers.below(6)]
            if changed[0] < changed[2] and changed[1] < changed[3]:
                self.check_by_words(self.changed(rectangles, k, changed))
            right, up = numbers.below(13) - 6, numbers.below(13) - 6
            self.check_by_words(rectangles + layouts.moved([(layer, *sides)], right, up))

    def check_by_words(self, rectangles):
        self.assertEqual(find_breaches(rectangles), breaches_by_words(rectangles), rectangles)

    def test_changed_masks_of_circuits(self):
        self.check_changes(layouts.drawn(NOT)[0], 1)
        self.check_changes(layouts.drawn(LATCH_AND_NOR)[0], 2)

    def test_arguments_and_results_are_not_kept(self):
        rectangles = [("metal1", 0, 0, 4, 4), ("metal1", 5, 0, 12, 4)]
        copy = list(rectangles)
        find_breaches(rectangles).clear()
        self.assertEqual(find_breaches(rectangles), [(2, 0, 1)])
        self.assertIs(is_clean(rectangles), False)
        self.assertEqual(rectangles, copy)


if __name__ == "__main__":
    unittest.main()
