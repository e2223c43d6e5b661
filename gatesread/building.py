"""Nodes for the nets of a netlist (points 12 and 13)."""

from gatesread.nodetable import ONE, ZERO, NodeTable
from gatesread.ordering import latch_gates, logic_order


def build_nodes(netlist):
    """Return the node table of a netlist and a dict from each net's name to its node."""
    latches = latch_gates(netlist)
    table = NodeTable(len(netlist[0]), len(latches))
    numbers = {}
    for i, name in enumerate(netlist[0]):
        numbers[name] = table.input_node(i)
    for i, latch in enumerate(latches):
        numbers[latch[0]] = table.latch_node(i)
    for name, kind, sources in logic_order(netlist):
        numbers[name] = find_gate(table, kind, [numbers[source] for source in sources])
    return table, numbers


def find_gate(table, kind, nodes):
    """Return the node of a gate of a kind other than latch from the nodes of its inputs."""
    if kind == "zero":
        return ZERO
    if kind == "one":
        return ONE
    if kind == "not":
        return table.find_not(nodes[0])
    if kind == "and":
        return table.find_and(nodes)
    if kind == "or":
        return table.find_or(nodes)
    if kind == "nand":
        return table.find_not(table.find_and(nodes))
    if kind == "nor":
        return table.find_not(table.find_or(nodes))
    if kind == "xor":
        return table.find_xor(nodes[0], nodes[1])
    return table.find_mux(nodes[0], nodes[1], nodes[2])


def kept_nodes(netlist):
    """Return the ascending list of the kept nodes of a netlist."""
    table, numbers = build_nodes(netlist)
    latch_inputs = [numbers[latch[2][0]] for latch in latch_gates(netlist)]
    kept = {}
    left = [numbers[name] for name in netlist[1]]
    while left:
        number = left.pop()
        if number not in kept:
            kept[number] = True
            left.extend(needed_nodes(table.node(number), latch_inputs))
    return sorted(kept)


def needed_nodes(node, latch_inputs):
    """Return the list of the nodes that must be kept if a node is kept."""
    if node[0] == "input":
        return []
    if node[0] == "latch":
        return [latch_inputs[node[1]]]
    return list(node[1:])
