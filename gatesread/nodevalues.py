"""The values of nodes (point 13)."""

from gatesread.bits import check_bits
from gatesread.gates import gate_value


def node_values(table, inputs, states):
    """Return the list of the values of all nodes of a table."""
    nodes = [table.node(number) for number in range(table.size())]
    check_bits(inputs, count_kind(nodes, "input"))
    check_bits(states, count_kind(nodes, "latch"))
    values = []
    for node in nodes:
        values.append(node_value(node, values, inputs, states))
    return values


def count_kind(nodes, kind):
    """Return the number of the nodes of a kind."""
    return len([node for node in nodes if node[0] == kind])


def node_value(node, values, inputs, states):
    """Return the value of a node from the values of the nodes before it."""
    kind = node[0]
    if kind == "input":
        return inputs[node[1]]
    if kind == "latch":
        return states[node[1]]
    return gate_value(kind, [values[number] for number in node[1:]])
