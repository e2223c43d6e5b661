"""Points 35 and 43: writing and reading sheets."""

import unittest

import samples
from gatesread.arranging import arrange
from gatesread.channels import route
from gatesread.errors import InvalidSheet
from gatesread.masks import draw_masks
from gatesread.sheet import read_sheet, write_sheet

RECTANGLES = [
    ("ndiff", 18, 8, 38, 12),
    ("pdiff", -18, -44, 0, -40),
    ("poly", 0, 0, 1, 1),
    ("contact", -999999999, -1, 999999999, 0),
    ("metal1", 1, 10, 100, 1000),
    ("via", 1, 1, 3, 3),
    ("metal2", -3, 5, -2, 6),
    ("latch", 7, 8, 9, 10),
    ("latch", 7, 8, 9, 10),
]
LABELS = [
    ("ground", 0, 6, 2),
    ("power", 0, -66, -999999999),
    ("input", 0, 28, 2),
    ("input", 999999999, 28, 2),
    ("output", 0, 0, 0),
    ("latch", 0, 1, 2),
    ("latch", 3, 44, 40),
    ("output", 10, 1, 2),
]
TEXT = """ndiff 18 8 38 12
pdiff -18 -44 0 -40
poly 0 0 1 1
contact -999999999 -1 999999999 0
metal1 1 10 100 1000
via 1 1 3 3
metal2 -3 5 -2 6
latch 7 8 9 10
latch 7 8 9 10
label ground 0 6 2
label power 0 -66 -999999999
label input 0 28 2
label input 999999999 28 2
label output 0 0 0
label latch 0 1 2
label latch 3 44 40
label output 10 1 2
"""

# Lines that stand nowhere in a sheet.
WRONG_RECTANGLES = [
    "ndif 1 1 5 5",
    "metal3 1 1 5 5",
    "Poly 1 1 5 5",
    "label 1 1 5 5",
    "ground 0 1 5 5",
    "0 1 1 5 5",
    "poly",
    "poly 1 1 5",
    "poly 1 1 5 5 5",
    "poly poly 1 1 5 5",
    "1 1 5 5",
]
WRONG_LABELS = [
    "label",
    "label label 0 1 1",
    "label grond 0 1 1",
    "label poly 0 1 1",
    "label Input 0 1 1",
    "label input 0 1",
    "label input 0 1 1 1",
    "label 0 1 1 1",
    "labels input 0 1 1",
    "input 0 1 1",
    "label input -1 1 1",
    "label output -1 1 1",
    "label latch -5 1 1",
    "label ground 1 1 1",
    "label ground -1 1 1",
    "label power 1 1 1",
    "label power 10 1 1",
]
WRONG_SPACES = [
    "poly  1 1 5 5",
    "poly 1 1  5 5",
    " poly 1 1 5 5",
    "poly 1 1 5 5 ",
    "poly 1 1 5  5",
    "label  input 5 1 1",
    "label input 5 1 1 ",
    " label input 5 1 1",
    "label input  5 1 1",
    "",
    " ",
    "     ",
]
WRONG_INTEGERS = [
    "-0", "00", "01", "-01", "007", "+1", "--1", "-", "1-", "1.0", "1e3", "0x1", "1_0", "a", "l",
    "1234567890", "-1234567890", "0000000000", "1000000000", ".", "~", "0-", "-00",
]
# The sides in another order than left < right and bottom < top.
WRONG_SIDES = [
    "poly 5 1 5 5", "poly 6 1 5 5", "poly 1 5 5 5", "poly 1 6 5 5", "poly 6 6 5 5",
    "poly 0 1 -1 5", "poly 1 0 5 -1", "poly -1 1 -2 5", "poly 1 -9 5 -10", "poly 9 1 10 0",
    "poly 10 1 9 5",
]


class WriteSheetTest(unittest.TestCase):
    def test_lines(self):
        copies = list(RECTANGLES), list(LABELS)
        self.assertEqual(write_sheet(RECTANGLES, LABELS), TEXT)
        self.assertEqual((RECTANGLES, LABELS), copies)

    def test_only_one_of_both(self):
        self.assertEqual(write_sheet([], [("input", 5, -1, 0)]), "label input 5 -1 0\n")
        self.assertEqual(write_sheet([("via", -1, 0, 1, 2)], []), "via -1 0 1 2\n")

    def test_nothing(self):
        self.assertEqual(write_sheet([], []), "")


class ReadSheetTest(unittest.TestCase):
    def check(self, text, rectangles, labels):
        with self.subTest(text):
            self.assertEqual(read_sheet(text), (rectangles, labels))
            self.assertEqual(write_sheet(rectangles, labels), text)

    def test_lines(self):
        self.check(TEXT, RECTANGLES, LABELS)

    def test_only_one_of_both(self):
        self.check("label input 5 -1 0\n", [], [("input", 5, -1, 0)])
        self.check("via -1 0 1 2\n", [("via", -1, 0, 1, 2)], [])

    def test_nothing(self):
        self.check("", [], [])

    def test_nine_digits(self):
        self.check("poly -999999999 100000000 -123456789 999999999\n",
                   [("poly", -999999999, 100000000, -123456789, 999999999)], [])
        self.check("label latch 999999999 -999999999 999999999\n", [],
                   [("latch", 999999999, -999999999, 999999999)])

    def test_labels_of_one_place(self):
        labels = [("input", 1, 0, 0), ("input", 2, 0, 0), ("output", 1, 0, 0), ("latch", 1, 0, 0)]
        self.check(write_sheet([], labels), [], labels)

    def test_masks_of_circuits(self):
        for circuit, placement in samples.some_placements():
            arrangement = arrange(circuit, placement)
            masks = draw_masks(circuit, arrangement, route(circuit, arrangement))
            text = write_sheet(*masks)
            self.assertEqual(text.count("\n"), len(masks[0]) + len(masks[1]))
            self.check(text, *masks)

    def test_new_lists(self):
        for part in read_sheet(TEXT):
            part.clear()
        self.assertEqual(read_sheet(TEXT), (RECTANGLES, LABELS))


class InvalidSheetTest(unittest.TestCase):
    def check(self, text, line):
        with self.subTest(text):
            with self.assertRaises(InvalidSheet) as caught:
                read_sheet(text)
            self.assertEqual(caught.exception.line, line)

    def check_line(self, line):
        """Check a wrong line as the first, the last, and the only one, and between others."""
        self.check(line + "\n", 1)
        self.check(line + "\n" + TEXT, 1)
        self.check(TEXT + line + "\n", 18)
        self.check("poly 1 1 5 5\n" * 3 + line + "\nlabel ground 0 1 1\n", 4)
        self.check("poly 1 1 5 5\n" + (line + "\n") * 2 + "also wrong\n", 2)
        self.check("poly 1 1 5 5\n" + line, 2)

    def test_words(self):
        for line in WRONG_RECTANGLES + WRONG_LABELS:
            self.check_line(line)

    def test_spaces(self):
        for line in WRONG_SPACES:
            if line:
                self.check_line(line)

    def test_empty_lines(self):
        self.check("\n", 1)
        self.check("\n" + TEXT, 1)
        self.check(TEXT + "\n", 18)
        self.check("poly 1 1 5 5\n\nlabel input 0 1 1\n", 2)
        self.check("\n\n\n", 1)

    def test_integers(self):
        for word in WRONG_INTEGERS:
            for place in range(4):
                words = ["-9", "-9", "9", "9"]
                words[place] = word
                self.check_line(" ".join(["metal1"] + words))
            for place in range(3):
                words = ["2", "1", "1"]
                words[place] = word
                self.check_line(" ".join(["label", "latch"] + words))
        for word in ("-0", "00", "0000000000"):
            self.check_line(f"label ground {word} 1 1")

    def test_sides(self):
        for line in WRONG_SIDES:
            self.check_line(line)

    def test_two_labels_of_one_kind_and_number(self):
        for label in ("ground 0", "power 0", "input 0", "input 7", "output 3", "latch 1"):
            line = f"label {label} 1 2\n"
            self.check(line + line, 2)
            self.check("poly 1 1 5 5\n" + line + "label latch 50 0 0\n" + line, 4)
            self.check(line + f"label {label} 3 4\n" + "wrong\n", 2)

    def test_a_rectangle_behind_a_label(self):
        self.check("label input 0 1 1\npoly 1 1 5 5\n", 2)
        self.check(TEXT + "via 1 1 3 3\n" + "label input 1 1 1\n", 18)
        self.check("poly 1 1 5 5\nlabel input 0 1 1\nlabel input 1 1 1\nlatch 1 1 5 5\n", 4)

    def test_no_newline_at_the_end(self):
        self.check("poly 1 1 5 5", 1)
        self.check(TEXT[:-1], 17)
        self.check(TEXT + "label output 11 1 1", 18)
        self.check(TEXT + " ", 18)
        self.check(" ", 1)
        # A wrong line ahead of it comes first.
        self.check("poly 1 1 5\nlabel input 0 1 1", 1)
        self.check("label input 0 1 1\nlabel input 0 1 1\npoly", 2)


if __name__ == "__main__":
    unittest.main()
