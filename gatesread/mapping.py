"""Mapping a netlist to cells (points 14 to 17)."""

from gatesread.building import build_nodes, kept_nodes
from gatesread.cellmaker import CellMaker
from gatesread.errors import TooLarge
from gatesread.ordering import latch_gates

MOST_CELLS = 40


def map_cells(netlist):
    """Return the circuit of a netlist."""
    table, numbers = build_nodes(netlist)
    maker = CellMaker(len(netlist[0]))
    nets = {}
    # Ascending order is the order of point 15: node 0, node 1, inputs, latches, the others.
    for number in kept_nodes(netlist):
        nets[number] = make_cells(maker, table.node(number), nets)
    latches = latch_gates(netlist)
    for cell, latch in maker.held.items():
        maker.connect_latch(cell, nets[numbers[latches[latch][2][0]]])
    return needed_circuit(maker, [nets[numbers[name]] for name in netlist[1]])


def make_cells(maker, node, nets):
    """Make the cells of a node; return the net that the node gets.

    nets is a dict from the nodes before it to their nets.
    """
    kind = node[0]
    if kind == "zero":
        return maker.make_tie("tie0")
    if kind == "one":
        return maker.make_tie("tie1")
    if kind == "input":
        return node[1]
    if kind == "latch":
        return maker.make_latch(node[1])
    sources = [nets[number] for number in node[1:]]
    if kind == "not":
        return maker.make_not(sources[0])
    if kind == "and":
        return maker.make_not(maker.make_nand(sources))
    if kind == "or":
        return maker.make_not(maker.make_nor(sources))
    if kind == "xor":
        return make_xor(maker, sources[0], sources[1])
    return make_mux(maker, sources[0], sources[1], sources[2])


def make_xor(maker, x, y):
    """Make the cells of an xor; return its net."""
    n = maker.make_nand([x, y])
    p = maker.make_nand([x, n])
    q = maker.make_nand([y, n])
    return maker.make_nand([p, q])


def make_mux(maker, s, a, b):
    """Make the cells of a mux; return its net."""
    t = maker.make_not(s)
    p = maker.make_nand([s, b])
    q = maker.make_nand([t, a])
    return maker.make_nand([p, q])


def needed_circuit(maker, outputs):
    """Return the circuit of the needed ones of the cells that were made."""
    first = maker.input_count
    needed = needed_cells(maker, outputs)
    if len(needed) > MOST_CELLS:
        raise TooLarge(f"{len(needed)} cells are needed")
    nets = {net: net for net in range(first)}
    for place, cell in enumerate(needed):
        nets[first + cell] = first + place
    cells = []
    for cell in needed:
        kind, sources = maker.cells[cell]
        cells.append((kind, tuple([nets[net] for net in sources]), nets[first + cell]))
    latches = tuple([maker.held[cell] for cell in needed if cell in maker.held])
    return first, tuple(cells), tuple([nets[net] for net in outputs]), latches


def needed_cells(maker, outputs):
    """Return the ascending list of the numbers of the needed cells."""
    needed = {}
    left = list(outputs)
    while left:
        cell = left.pop() - maker.input_count
        if cell >= 0 and cell not in needed:
            needed[cell] = True
            left.extend(maker.cells[cell][1])
    return sorted(needed)
