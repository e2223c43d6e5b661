"""The kinds of cells (points 14 and 18)."""

CELL_INPUTS = {
    "not": 1,
    "nand2": 2,
    "nand3": 3,
    "nor2": 2,
    "nor3": 3,
    "latch": 1,
    "tie0": 0,
    "tie1": 0,
}


def cell_inputs(kind):
    """Return the number of inputs of a kind of cell."""
    return CELL_INPUTS[kind]


def cell_value(kind, values):
    """Return the value of a cell of a kind other than latch from its inputs' values."""
    if kind == "tie0":
        return 0
    if kind == "tie1":
        return 1
    if kind in ("nor2", "nor3"):
        return 1 - max(values)
    return 1 - min(values)
