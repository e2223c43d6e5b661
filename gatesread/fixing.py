"""The fixed nodes of a circuit that was read back, and the levels of all (points 53 and 55)."""

from gatesread.levels import UNKNOWN, settle

SUPPLY_LEVELS = {"ground": 0, "power": 1}


def node_levels(readback, inputs, states):
    """Return the list of the levels of all nodes.

    inputs is a dict from numbers of input labels to bits or None, and states one from numbers of
    latches; numbers that are not there are unknown, like those at None.
    """
    fixed = fixed_nodes(readback, inputs, states)
    return settle(readback.node_count(), readback.transistors(), fixed)


def fixed_nodes(readback, inputs, states):
    """Return the dict from the fixed nodes to their levels."""
    fixed = {}
    for node, level in fixed_pairs(readback, inputs, states):
        if fixed.get(node, level) == level:
            fixed[node] = level
        else:
            fixed[node] = UNKNOWN
    return fixed


def fixed_pairs(readback, inputs, states):
    """Return the list of the pairs of a node and a level at which it would be fixed."""
    pairs = []
    for kind, number, node in readback.ports():
        if node is None:
            continue
        if kind == "input":
            pairs.append((node, known_level(inputs, number)))
        elif kind in SUPPLY_LEVELS:
            pairs.append((node, SUPPLY_LEVELS[kind]))
    for d, q, latch in readback.boxes():
        if latch is not None:
            pairs.append((q, known_level(states, latch)))
    return pairs


def known_level(values, number):
    """Return the level for the value of a number in a dict of bits and None."""
    value = values.get(number)
    if value is None:
        return UNKNOWN
    return value
