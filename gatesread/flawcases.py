"""The least cases that show flaws, found by diagrams (point 66)."""

from gatesread.circuits import end_nets
from gatesread.diagrams import Diagrams
from gatesread.flaws import check_flaw
from gatesread.functions import first_difference, gate_function
from gatesread.listing import LISTED_KINDS


def least_case(circuit, flaw):
    """Return the least case that shows a flaw, None if it is hidden."""
    check_flaw(circuit, flaw)
    net, value = flaw
    table = Diagrams(circuit[0] + len(circuit[3]))
    right = end_functions(table, circuit, {})
    return first_difference(table, right, end_functions(table, circuit, {net: value}))


def end_functions(table, circuit, stuck):
    """Return the nodes of the outputs, and then of the next states, where some nets are stuck.

    stuck is a dict from these nets to the values at which they are stuck.
    """
    variables = [table.variable(i) for i in range(circuit[0] + len(circuit[3]))]
    # The nodes 0 and 1 are the functions that are always 0 and always 1.
    nodes = [stuck.get(net, variables[net]) for net in range(circuit[0])]
    latch = circuit[0]
    for kind, sources, output in circuit[1]:
        if kind == "latch":
            node = variables[latch]
            latch += 1
        else:
            node = gate_function(table, LISTED_KINDS[kind], [nodes[net] for net in sources])
        nodes.append(stuck.get(output, node))
    return [nodes[net] for net in end_nets(circuit)]
