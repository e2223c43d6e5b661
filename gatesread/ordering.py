"""The order in which the gates of a netlist can be worked out."""


def latch_gates(netlist):
    """Return the list of the latches of a netlist, in order."""
    return [gate for gate in netlist[2] if gate[1] == "latch"]


def logic_order(netlist):
    """Return the list of the gates that are not latches, each behind its inputs.

    Of the gates whose inputs are all known, the first in the text is next (point 12).
    """
    known = {name: True for name in netlist[0]}
    for latch in latch_gates(netlist):
        known[latch[0]] = True
    left = [gate for gate in netlist[2] if gate[1] != "latch"]
    order = []
    while left:
        gate = left.pop(first_ready(left, known))
        known[gate[0]] = True
        order.append(gate)
    return order


def first_ready(gates, known):
    """Return the index of the first gate whose inputs are all known; there is one."""
    index = 0
    while not all([name in known for name in gates[index][2]]):
        index += 1
    return index
