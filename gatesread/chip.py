"""Compiling a text to a sheet, and running a sheet (point 60)."""

from gatesread.arranging import arrange
from gatesread.channels import route
from gatesread.improving import improve
from gatesread.machine import Machine
from gatesread.mapping import map_cells
from gatesread.masks import draw_masks
from gatesread.placing import first_placement
from gatesread.reader import read_netlist
from gatesread.sheet import read_sheet, write_sheet


def compile_chip(text, row_count):
    """Return the sheet of a netlist's text, with the improved first placement."""
    circuit = map_cells(read_netlist(text))
    return draw_sheet(circuit, improve(circuit, first_placement(circuit, row_count)))


def compile_placed(text, placement):
    """Return the sheet of a netlist's text with the given placement of its circuit."""
    return draw_sheet(map_cells(read_netlist(text)), placement)


def draw_sheet(circuit, placement):
    """Return the sheet of a circuit with a placement."""
    arrangement = arrange(circuit, placement)
    rectangles, labels = draw_masks(circuit, arrangement, route(circuit, arrangement))
    return write_sheet(rectangles, labels)


def machine_of(sheet):
    """Return the machine of a sheet."""
    rectangles, labels = read_sheet(sheet)
    return Machine(rectangles, labels)
