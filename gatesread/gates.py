"""The kinds of gates, and the values of the nets of a netlist (points 4 and 8)."""

from gatesread.bits import check_bits
from gatesread.ordering import latch_gates, logic_order

INPUT_COUNTS = {
    "not": (1, 1),
    "and": (2, 3),
    "or": (2, 3),
    "nand": (2, 3),
    "nor": (2, 3),
    "xor": (2, 2),
    "mux": (3, 3),
    "zero": (0, 0),
    "one": (0, 0),
    "latch": (1, 1),
}


def is_kind(word):
    """Return True if a word is a kind of gate, otherwise False."""
    return word in INPUT_COUNTS


def input_counts(kind):
    """Return the pair of the least and the greatest number of inputs of a kind."""
    return INPUT_COUNTS[kind]


def gate_value(kind, values):
    """Return the value of a gate of a kind other than latch from its inputs' values."""
    if kind == "zero":
        return 0
    if kind == "one":
        return 1
    if kind == "not":
        return 1 - values[0]
    if kind == "and":
        return min(values)
    if kind == "or":
        return max(values)
    if kind == "nand":
        return 1 - min(values)
    if kind == "nor":
        return 1 - max(values)
    if kind == "xor":
        return values[0] ^ values[1]
    return mux_value(values[0], values[1], values[2])


def mux_value(s, a, b):
    """Return a if s is 0, and b if s is 1."""
    if s == 0:
        return a
    return b


def net_values(netlist, inputs, states):
    """Return a dict from the name of each net to its value."""
    latches = latch_gates(netlist)
    check_bits(inputs, len(netlist[0]))
    check_bits(states, len(latches))
    values = {}
    for name, bit in zip(netlist[0], inputs):
        values[name] = bit
    for latch, state in zip(latches, states):
        values[latch[0]] = state
    for name, kind, sources in logic_order(netlist):
        values[name] = gate_value(kind, [values[source] for source in sources])
    return values


def output_values(netlist, inputs, states):
    """Return the list of the values of the outputs."""
    values = net_values(netlist, inputs, states)
    return [values[name] for name in netlist[1]]


def next_states(netlist, inputs, states):
    """Return the list of the next states of the latches."""
    values = net_values(netlist, inputs, states)
    return [values[latch[2][0]] for latch in latch_gates(netlist)]
