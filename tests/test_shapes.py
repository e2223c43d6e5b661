"""Point 45: the shapes that rectangles make up."""

import unittest

import layouts
import samples
from gatesread.shapes import shape_numbers

LAYERS = ("ndiff", "pdiff", "poly", "contact", "metal1", "via", "metal2", "latch")


def shapes_by_words(rectangles):
    def touch(a, b):
        width = min(a[3], b[3]) - max(a[1], b[1])
        height = min(a[4], b[4]) - max(a[2], b[2])
        return width >= 0 and height >= 0 and (width, height) != (0, 0)

    shapes = [{k} for k in range(len(rectangles))]
    for a, one in enumerate(rectangles):
        for b, other in enumerate(rectangles[:a]):
            if one[0] == other[0] and touch(one, other):
                both = shapes[a] | shapes[b]
                for k in both:
                    shapes[k] = both
    return [min(shape) for shape in shapes]


def arbitrary_rectangles(seed, count, width, layers=LAYERS):
    numbers = samples.Numbers(seed)
    rectangles = []
    for _ in range(count):
        left, bottom = numbers.below(width) - width // 2, numbers.below(width) - width // 2
        right, top = left + 1 + numbers.below(6), bottom + 1 + numbers.below(6)
        rectangles.append((layers[numbers.below(len(layers))], left, bottom, right, top))
    return rectangles


class ShapeNumbersTest(unittest.TestCase):
    def check(self, rectangles, expected):
        with self.subTest(rectangles=rectangles):
            for layer in LAYERS:
                found = [(layer, *sides) for sides in rectangles]
                self.assertEqual(shape_numbers(found), expected)

    def test_none_and_one(self):
        self.check([], [])
        self.check([(-3, 0, 4, 5)], [0])

    def test_touching_directly(self):
        self.check([(0, 0, 10, 10), (20, 0, 30, 10), (25, 5, 40, 40)], [0, 1, 1])
        self.check([(0, 0, 10, 10), (10, 3, 30, 4), (10, 10, 12, 12)], [0, 0, 2])
        self.check([(5, 5, 6, 6), (0, 0, 10, 10)], [0, 0])

    def test_only_a_corner_in_common(self):
        self.check([(0, 0, 10, 10), (10, 10, 20, 20)], [0, 1])
        self.check([(0, 10, 10, 20), (10, 0, 20, 10)], [0, 1])

    def test_equal_rectangles(self):
        self.check([(0, 0, 1, 1), (5, 5, 6, 6), (0, 0, 1, 1), (5, 5, 6, 6)], [0, 1, 0, 1])

    def test_over_others(self):
        # The last one connects the first two, and the one in the middle is alone.
        self.check([(0, 0, 4, 4), (8, 0, 12, 4), (30, 0, 31, 1), (4, 0, 8, 4)], [0, 0, 2, 0])
        # From right to left, and around a hole.
        self.check([(30, 0, 40, 10), (20, 0, 30, 10), (10, 0, 20, 10), (0, 0, 10, 10)], [0] * 4)
        self.check([(0, 0, 9, 1), (0, 8, 9, 9), (0, 0, 1, 9), (8, 0, 9, 9), (4, 4, 5, 5)],
                   [0, 0, 0, 0, 4])

    def test_other_layers_do_not_connect(self):
        rectangles = [(layer, 0, 0, 10, 10) for layer in LAYERS]
        self.assertEqual(shape_numbers(rectangles), list(range(8)))
        self.assertEqual(shape_numbers(rectangles + rectangles), list(range(8)) * 2)
        rectangles = [("metal1", 0, 0, 4, 4), ("metal1", 8, 0, 12, 4), ("metal2", 0, 0, 12, 4)]
        self.assertEqual(shape_numbers(rectangles), [0, 1, 2])

    def test_long_rows(self):
        row = [("poly", 2 * k, 0, 2 * k + 2, 2) for k in range(4000)]
        self.assertEqual(shape_numbers(row), [0] * 4000)
        self.assertEqual(shape_numbers(row[::-1]), [0] * 4000)
        self.assertEqual(shape_numbers(row[::2]), list(range(2000)))

    def test_arbitrary_rectangles(self):
        for seed in range(200):
            rectangles = arbitrary_rectangles(seed, seed % 30, 5 + seed % 20)
            self.assertEqual(shape_numbers(rectangles), shapes_by_words(rectangles))

    def test_masks_of_circuits(self):
        for circuit in samples.PLACED_CIRCUITS:
            rectangles, labels = layouts.drawn(circuit)
            self.assertEqual(shape_numbers(rectangles), shapes_by_words(rectangles))

    def test_arguments_and_results_are_not_kept(self):
        rectangles = [("metal1", 0, 0, 4, 4), ("metal1", 2, 0, 12, 4)]
        copy = list(rectangles)
        shape_numbers(rectangles).clear()
        self.assertEqual(rectangles, copy)
        self.assertEqual(shape_numbers(rectangles), [0, 0])


if __name__ == "__main__":
    unittest.main()
