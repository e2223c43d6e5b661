"""Points 35 to 39: the rectangles of each kind of cell, and of a feed."""

import unittest

import samples
from gatesread.cellshapes import cell_rectangles, feed_rectangles

# The middles of the columns 0 to 7 are 20, 28, 36, 44, 52, 60, 68 and 76.
FIRST_INPUT = """
poly 27 6 29 46
poly 26 21 30 25
contact 27 22 29 24
metal1 26 21 30 31
via 27 28 29 30
metal2 26 0 30 52
"""
SECOND_INPUT = """
poly 43 6 45 46
poly 42 21 46 25
contact 43 22 45 24
metal1 42 21 46 31
via 43 28 45 30
metal2 42 0 46 52
"""
THIRD_INPUT = """
poly 59 6 61 46
poly 58 21 62 25
contact 59 22 61 24
metal1 58 21 62 31
via 59 28 61 30
metal2 58 0 62 52
"""
OUTPUT_OF_TWO = """
metal1 50 15 54 37
metal1 50 27 62 31
via 59 28 61 30
metal2 58 0 62 52
"""
OUTPUT_OF_THREE = """
metal1 66 15 70 37
metal1 66 27 78 31
via 75 28 77 30
metal2 74 0 78 52
"""
FIRST_GROUND = """
contact 19 9 21 11
metal1 18 0 22 12
"""
FIRST_POWER = """
contact 19 41 21 43
metal1 18 40 22 52
"""

NOT = """
ndiff 18 8 38 12
pdiff 18 40 38 44
""" + FIRST_INPUT + """
metal1 34 15 38 37
metal1 34 27 46 31
via 43 28 45 30
metal2 42 0 46 52
""" + FIRST_GROUND + """
contact 35 9 37 11
metal1 34 8 38 18
metal1 34 15 38 18
""" + FIRST_POWER + """
contact 35 41 37 43
metal1 34 34 38 44
metal1 34 34 38 37
"""

NAND2 = """
ndiff 18 8 54 12
pdiff 18 40 54 44
""" + FIRST_INPUT + SECOND_INPUT + OUTPUT_OF_TWO + FIRST_GROUND + """
contact 51 9 53 11
metal1 50 8 54 18
metal1 50 15 54 18
""" + FIRST_POWER + """
contact 35 41 37 43
metal1 34 34 38 44
contact 51 41 53 43
metal1 50 40 54 52
metal1 34 34 54 37
"""

NAND3 = """
ndiff 18 8 70 12
pdiff 18 40 70 44
""" + FIRST_INPUT + SECOND_INPUT + THIRD_INPUT + OUTPUT_OF_THREE + FIRST_GROUND + """
contact 67 9 69 11
metal1 66 8 70 18
metal1 66 15 70 18
""" + FIRST_POWER + """
contact 35 41 37 43
metal1 34 34 38 44
contact 51 41 53 43
metal1 50 40 54 52
contact 67 41 69 43
metal1 66 34 70 44
metal1 34 34 70 37
"""

NOR2 = """
ndiff 18 8 54 12
pdiff 18 40 54 44
""" + FIRST_INPUT + SECOND_INPUT + OUTPUT_OF_TWO + FIRST_GROUND + """
contact 35 9 37 11
metal1 34 8 38 18
contact 51 9 53 11
metal1 50 0 54 12
metal1 34 15 54 18
""" + FIRST_POWER + """
contact 51 41 53 43
metal1 50 34 54 44
metal1 50 34 54 37
"""

NOR3 = """
ndiff 18 8 70 12
pdiff 18 40 70 44
""" + FIRST_INPUT + SECOND_INPUT + THIRD_INPUT + OUTPUT_OF_THREE + FIRST_GROUND + """
contact 35 9 37 11
metal1 34 8 38 18
contact 51 9 53 11
metal1 50 0 54 12
contact 67 9 69 11
metal1 66 8 70 18
metal1 34 15 70 18
""" + FIRST_POWER + """
contact 67 41 69 43
metal1 66 34 70 44
metal1 66 34 70 37
"""

TIE0 = """
metal1 26 0 30 31
via 27 28 29 30
metal2 26 0 30 52
"""

TIE1 = """
metal1 26 27 30 52
via 27 28 29 30
metal2 26 0 30 52
"""

LATCH = """
latch 24 20 48 32
metal2 26 0 30 52
metal2 42 0 46 52
"""

FEED = "metal2 26 0 30 52"

CELLS = {"not": NOT, "nand2": NAND2, "nand3": NAND3, "nor2": NOR2, "nor3": NOR3,
         "tie0": TIE0, "tie1": TIE1, "latch": LATCH}


def expected(text, column, bottom):
    """The rectangles of a text, which tells them at column 0 and bottom 0, elsewhere."""
    lines = text.replace("\n\n", "\n")
    return [(layer, left + 8 * column, low + bottom, right + 8 * column, high + bottom)
            for layer, left, low, right, high in samples.rectangles_of(lines)]


class ShapesTest(unittest.TestCase):
    PLACES = [(0, 0), (0, 1), (1, 0), (1, 4), (2, 11), (3, 66), (50, 1234), (7, -60), (200, 52)]

    def test_each_kind_of_cell(self):
        for kind, text in CELLS.items():
            for column, bottom in self.PLACES:
                with self.subTest(kind=kind, column=column, bottom=bottom):
                    rectangles = cell_rectangles(kind, column, bottom)
                    self.assertEqual(rectangles, expected(text, column, bottom))

    def test_feed(self):
        for column, bottom in self.PLACES:
            rectangles = feed_rectangles(column, bottom)
            self.assertEqual(rectangles, expected(FEED, column, bottom))

    def test_to_the_letter(self):
        self.assertEqual(cell_rectangles("tie1", 3, 100), [
            ("metal1", 50, 127, 54, 152), ("via", 51, 128, 53, 130), ("metal2", 50, 100, 54, 152)])
        self.assertEqual(cell_rectangles("latch", 1, 14), [
            ("latch", 32, 34, 56, 46), ("metal2", 34, 14, 38, 66), ("metal2", 50, 14, 54, 66)])
        self.assertEqual(feed_rectangles(2, 10), [("metal2", 42, 10, 46, 62)])

    def test_new_lists(self):
        for kind in CELLS:
            cell_rectangles(kind, 0, 0).clear()
            self.assertNotEqual(cell_rectangles(kind, 0, 0), [])
        feed_rectangles(0, 0).clear()
        self.assertEqual(feed_rectangles(0, 0), [("metal2", 26, 0, 30, 52)])


if __name__ == "__main__":
    unittest.main()
