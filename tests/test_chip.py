"""Point 60: from a text to its sheet, and from a sheet to its machine."""

import unittest

import samples
from gatesread.arranging import arrange
from gatesread.channels import route
from gatesread.chip import compile_chip, compile_placed, machine_of
from gatesread.clocked import Clocked
from gatesread.errors import BrokenMasks, InvalidNetlist, InvalidPlacement, InvalidSheet, TooLarge
from gatesread.improving import improve
from gatesread.machine import Machine
from gatesread.mapping import map_cells
from gatesread.masks import draw_masks
from gatesread.placing import first_placement
from gatesread.reader import read_netlist
from gatesread.sheet import read_sheet, write_sheet
from gatesread.writer import write_netlist

LATCH_SHEET = """metal1 26 7 38 11
metal2 26 4 30 11
via 27 8 29 10
metal2 34 7 38 14
via 35 8 37 10
metal1 4 14 60 18
via 5 15 7 17
metal1 12 62 68 66
via 65 63 67 65
latch 32 34 56 46
metal2 34 14 38 66
metal2 50 14 54 66
metal1 26 69 54 73
metal2 26 69 30 76
via 27 70 29 72
metal2 50 66 54 73
via 51 70 53 72
metal2 4 0 8 80
metal2 64 0 68 80
metal2 26 0 30 4
metal2 26 76 30 80
label ground 0 6 2
label power 0 66 2
label input 0 28 2
label output 0 28 78
label latch 0 44 40
"""
ADDER = write_netlist(samples.FULL_ADDER)
COUNTER = write_netlist(samples.COUNTER)
LATCH = "in a; x = latch a; out x;"
TOO_LARGE = write_netlist(samples.too_large_netlist())


def sheet_by_steps(text, placement):
    circuit = map_cells(read_netlist(text))
    arrangement = arrange(circuit, placement)
    return write_sheet(*draw_masks(circuit, arrangement, route(circuit, arrangement)))


class CompileTest(unittest.TestCase):
    def test_a_latch(self):
        self.assertEqual(compile_chip(LATCH, 1), LATCH_SHEET)
        self.assertEqual(compile_placed(LATCH, [[0]]), LATCH_SHEET)

    def test_the_improved_first_placement(self):
        better = 0
        for text in (ADDER, COUNTER):
            circuit = map_cells(read_netlist(text))
            for row_count in range(1, 7):
                first = first_placement(circuit, row_count)
                improved = improve(circuit, first)
                better += first != improved
                self.assertEqual(compile_chip(text, row_count), sheet_by_steps(text, improved))
        self.assertGreater(better, 0)

    def test_given_placements(self):
        for seed, text in enumerate((ADDER, COUNTER, ADDER, COUNTER)):
            circuit = map_cells(read_netlist(text))
            for row_count in range(1, 7):
                placement = samples.arbitrary_placement(seed, circuit, row_count)
                copy = [list(row) for row in placement]
                self.assertEqual(compile_placed(text, placement), sheet_by_steps(text, placement))
                self.assertEqual(placement, copy)

    def test_no_cells(self):
        self.assertEqual(compile_chip("in a b; out b a b;", 3),
                         sheet_by_steps("in a b; out b a b;", [[], [], []]))
        self.assertEqual(compile_placed("in a; out a;", [[]]), sheet_by_steps("in a; out a;", [[]]))


class ErrorsTest(unittest.TestCase):
    def test_texts_with_a_fault(self):
        for text, fault in (("", ("syntax", 0)), ("in a; out b;", ("name", 10)), ("x = not x; out x;", ("ring", 0))):
            for row_count in (1, 0, 7):
                with self.assertRaises(InvalidNetlist) as caught:
                    compile_chip(text, row_count)
                self.assertEqual((caught.exception.kind, caught.exception.place), fault)
            for placement in ([[]], [], [[1]]):
                with self.assertRaises(InvalidNetlist) as caught:
                    compile_placed(text, placement)
                self.assertEqual((caught.exception.kind, caught.exception.place), fault)

    def test_too_many_cells(self):
        for row_count in (1, 6, 0, 7, -1):
            with self.assertRaises(TooLarge):
                compile_chip(TOO_LARGE, row_count)
        for placement in ([list(range(44))], [], [[0]]):
            with self.assertRaises(TooLarge):
                compile_placed(TOO_LARGE, placement)

    def test_wrong_row_counts(self):
        for row_count in (0, 7, -1, 100):
            with self.assertRaises(InvalidPlacement):
                compile_chip(ADDER, row_count)

    def test_wrong_placements(self):
        count = len(map_cells(read_netlist(ADDER))[1])
        for placement in samples.wrong_placements(count):
            with self.subTest(placement=placement), self.assertRaises(InvalidPlacement):
                compile_placed(ADDER, placement)


class MachineOfTest(unittest.TestCase):
    def test_the_machine_of_a_sheet(self):
        for text in (ADDER, COUNTER, LATCH):
            machine, clocked = machine_of(compile_chip(text, 2)), Clocked(read_netlist(text))
            self.assertIsInstance(machine, Machine)
            inputs = len(read_netlist(text)[0])
            for bits in samples.bit_lists(inputs) * 2:
                self.assertEqual(machine.clock(bits), clocked.clock(bits))
                self.assertEqual(machine.states(), clocked.states())

    def test_the_empty_sheet(self):
        machine = machine_of("")
        self.assertEqual(machine.clock([]), [])
        self.assertEqual(machine.input_numbers(), [])

    def test_texts_that_are_no_sheets(self):
        lines = LATCH_SHEET.split("\n")
        for number in range(1, len(lines)):
            text = "\n".join(lines[:number - 1] + ["metal3 1 2 3 4"] + lines[number:])
            with self.assertRaises(InvalidSheet) as caught:
                machine_of(text)
            self.assertEqual(caught.exception.line, number)
        with self.assertRaises(InvalidSheet):
            machine_of(LATCH_SHEET[:-1])

    def test_broken_masks(self):
        with self.assertRaises(BrokenMasks):
            machine_of(LATCH_SHEET.replace("via 5 15 7 17", "via 5 15 7 18"))
        # The sheet is read as a whole before the rules are checked.
        with self.assertRaises(InvalidSheet) as caught:
            machine_of("metal1 0 0 2 9\nmetal1 0 0 0 9\n")
        self.assertEqual(caught.exception.line, 2)

    def test_the_machine_has_the_masks_of_the_sheet(self):
        machine = machine_of(LATCH_SHEET)
        levels = Machine(*read_sheet(LATCH_SHEET)).levels([1])
        self.assertEqual(machine.levels([1]), levels)
        self.assertEqual(machine.latch_numbers(), [0])


if __name__ == "__main__":
    unittest.main()
