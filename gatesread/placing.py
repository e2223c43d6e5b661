"""Placements of the cells in rows (points 23 to 25)."""

from gatesread.cellkinds import cell_inputs
from gatesread.errors import InvalidPlacement

MOST_ROWS = 6


def cell_width(kind):
    """Return the width of a kind of cell in columns."""
    return 2 * cell_inputs(kind) + 2


def check_placement(circuit, placement):
    """Raise InvalidPlacement unless a list of rows is a placement of a circuit."""
    check_row_count(len(placement))
    cells = [cell for row in placement for cell in row]
    if sorted(cells) != list(range(len(circuit[1]))):
        raise InvalidPlacement("not each cell stands in one row, once")


def check_row_count(row_count):
    """Raise InvalidPlacement if no placement has so many rows."""
    if not 1 <= row_count <= MOST_ROWS:
        raise InvalidPlacement(f"{row_count} rows")


def first_placement(circuit, row_count):
    """Return the first placement of a circuit with a number of rows."""
    check_row_count(row_count)
    widths = [cell_width(cell[0]) for cell in circuit[1]]
    enough = (sum(widths) + row_count - 1) // row_count
    placement = [[] for _ in range(row_count)]
    row = 0
    taken = 0
    for cell, width in enumerate(widths):
        if taken >= enough and row < row_count - 1:
            row += 1
            taken = 0
        placement[row].append(cell)
        taken += width
    return placement
