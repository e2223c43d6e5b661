"""Point 44, and what it means to surround (point 46): two rectangles."""

import unittest
from itertools import product

from gatesread.rectangles import distance, surrounds, touches

LAYERS = ("ndiff", "pdiff", "poly", "contact", "metal1", "via", "metal2", "latch")
BASE = ("poly", 0, 0, 10, 20)


def small_rectangles(size):
    """All rectangles with corners from -1 on in a square."""
    sides = [(low, high) for low, high in product(range(-1, size), repeat=2) if low < high]
    return [("poly", x[0], y[0], x[1], y[1]) for x, y in product(sides, sides)]


def points(rectangle):
    layer, left, bottom, right, top = rectangle
    return set(product(range(left, right + 1), range(bottom, top + 1)))


def distance_by_words(a, b, low, high):
    """The distance in one direction, with the places of the sides in the rectangles."""
    if set(range(a[low], a[high] + 1)) & set(range(b[low], b[high] + 1)):
        return 0
    one, other = sorted([a, b], key=lambda rectangle: rectangle[low])
    return other[low] - one[high]


class TouchesTest(unittest.TestCase):
    def check(self, sides, expected):
        with self.subTest(sides=sides):
            for layer in LAYERS:
                self.assertIs(touches(BASE, (layer, *sides)), expected)
                self.assertIs(touches((layer, *sides), BASE), expected)

    def test_common_points(self):
        self.check((0, 0, 10, 20), True)
        self.check((2, 3, 4, 5), True)
        self.check((-5, -5, 15, 25), True)
        self.check((-5, 8, 15, 9), True)
        self.check((9, 19, 30, 30), True)

    def test_edges(self):
        self.check((10, 0, 20, 20), True)
        self.check((-5, 5, 0, 8), True)
        self.check((3, 20, 4, 21), True)
        self.check((-20, -7, 50, 0), True)
        # Only a part of the edges is in common.
        self.check((10, 19, 20, 40), True)
        self.check((10, -30, 20, 1), True)

    def test_corners(self):
        self.check((10, 20, 20, 30), False)
        self.check((-5, 20, 0, 30), False)
        self.check((10, -9, 20, 0), False)
        self.check((-5, -9, 0, 0), False)

    def test_apart(self):
        self.check((11, 0, 20, 20), False)
        self.check((0, 21, 10, 22), False)
        self.check((11, 21, 12, 22), False)
        self.check((-30, 5, -1, 8), False)
        self.check((10, 21, 20, 22), False)

    def test_all_small_rectangles(self):
        for a, b in product(small_rectangles(3), small_rectangles(4)):
            self.assertIs(touches(a, b), len(points(a) & points(b)) > 1, (a, b))


class DistanceTest(unittest.TestCase):
    def check(self, sides, expected):
        with self.subTest(sides=sides):
            for layer in LAYERS:
                self.assertEqual(distance(BASE, (layer, *sides)), expected)
                self.assertEqual(distance((layer, *sides), BASE), expected)

    def test_distances(self):
        self.check((0, 0, 10, 20), 0)
        self.check((3, 4, 5, 6), 0)
        self.check((10, 20, 11, 21), 0)
        self.check((13, 5, 20, 6), 3)
        self.check((5, -9, 6, -4), 4)
        self.check((-9, 0, -1, 20), 1)
        self.check((0, 22, 10, 30), 2)

    def test_the_greater_one(self):
        self.check((13, 27, 20, 30), 7)
        self.check((18, 21, 20, 30), 8)
        self.check((-30, -12, -6, -6), 6)
        self.check((-30, -12, -7, -6), 7)
        self.check((-30, -12, -5, -6), 6)

    def test_all_small_rectangles(self):
        for a, b in product(small_rectangles(2), small_rectangles(5)):
            x, y = distance_by_words(a, b, 1, 3), distance_by_words(a, b, 2, 4)
            self.assertEqual(distance(a, b), max(x, y), (a, b))


class SurroundsTest(unittest.TestCase):
    def check(self, outer, expected):
        with self.subTest(outer=outer):
            for one, other in product(LAYERS, repeat=2):
                self.assertIs(surrounds((one, *outer), (other, 0, 10, 20, 30)), expected)

    def test_at_least_1_beyond_on_each_side(self):
        self.check((-1, 9, 21, 31), True)
        self.check((-9, 0, 90, 99), True)
        self.check((0, 9, 21, 31), False)
        self.check((-1, 10, 21, 31), False)
        self.check((-1, 9, 20, 31), False)
        self.check((-1, 9, 21, 30), False)
        self.check((0, 10, 20, 30), False)
        self.check((1, 11, 19, 29), False)

    def test_elsewhere(self):
        self.check((22, 9, 44, 31), False)
        self.check((-1, 32, 21, 54), False)

    def test_all_small_rectangles(self):
        for outer, inner in product(small_rectangles(4), small_rectangles(3)):
            layer, left, bottom, right, top = inner
            grown = (layer, left - 1, bottom - 1, right + 1, top + 1)
            self.assertIs(surrounds(outer, inner), points(grown) <= points(outer), (outer, inner))


if __name__ == "__main__":
    unittest.main()
