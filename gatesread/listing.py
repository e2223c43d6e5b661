"""The listing of a circuit: a netlist (point 19)."""

LISTED_KINDS = {
    "not": "not",
    "nand2": "nand",
    "nand3": "nand",
    "nor2": "nor",
    "nor3": "nor",
    "latch": "latch",
    "tie0": "zero",
    "tie1": "one",
}


def list_cells(circuit):
    """Return the listing of a circuit."""
    input_count, cells, outputs, latches = circuit
    inputs = [f"i{i}" for i in range(input_count)]
    names = inputs + [f"c{k}" for k in range(len(cells))]
    gates = []
    for kind, sources, output in cells:
        gates.append((names[output], LISTED_KINDS[kind], tuple([names[net] for net in sources])))
    return tuple(inputs), tuple([names[net] for net in outputs]), tuple(gates)
