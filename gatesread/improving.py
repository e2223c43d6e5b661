"""Improving a placement by exchanges of two cells (points 26 and 27)."""

from gatesread.errors import NoSuchThing
from gatesread.placing import check_placement
from gatesread.wirelength import all_wires


def exchange(placement, one, other):
    """Return the placement after the exchange of two different cells."""
    cells = [cell for row in placement for cell in row]
    if one == other or one not in cells or other not in cells:
        raise NoSuchThing(f"{one} and {other} are not two cells of the placement")
    return exchanged_rows(placement, one, other)


def exchanged_rows(placement, one, other):
    """Return new rows in which two cells of a placement have exchanged their places."""
    new = {one: other, other: one}
    return [[new.get(cell, cell) for cell in row] for row in placement]


def improve(circuit, placement):
    """Return the improved placement."""
    check_placement(circuit, placement)
    best = [list(row) for row in placement]
    wire = sum(all_wires(circuit, best))
    found = best_exchange(circuit, best)
    while found is not None and found[0] < wire:
        wire, one, other = found
        best = exchanged_rows(best, one, other)
        found = best_exchange(circuit, best)
    return best


def best_exchange(circuit, placement):
    """Return the best exchange as a tuple of the wire after it and the two cells.

    Returns None if there are no two cells. Of equally good exchanges the least pair of cells
    is the best, as the tuples compare.
    """
    count = len(circuit[1])
    exchanges = []
    for one in range(count):
        for other in range(one + 1, count):
            rows = exchanged_rows(placement, one, other)
            exchanges.append((sum(all_wires(circuit, rows)), one, other))
    return min(exchanges, default=None)
