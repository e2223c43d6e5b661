"""The functions of gates as diagrams (points 8 and 65)."""

from gatesread.diagrams import ONE, ZERO


def gate_function(table, kind, nodes):
    """Return the node of a gate of a kind other than latch from the nodes of its inputs."""
    if kind == "zero":
        return ZERO
    if kind == "one":
        return ONE
    if kind == "not":
        return table.negate(nodes[0])
    if kind == "and":
        return all_of(table, nodes)
    if kind == "or":
        return any_of(table, nodes)
    if kind == "nand":
        return table.negate(all_of(table, nodes))
    if kind == "nor":
        return table.negate(any_of(table, nodes))
    if kind == "xor":
        return table.differ(nodes[0], nodes[1])
    # A mux is its last input where the first one is 1.
    return table.choose(nodes[0], nodes[2], nodes[1])


def all_of(table, nodes):
    """Return the node of the and of several functions."""
    result = ONE
    for node in nodes:
        result = table.both(result, node)
    return result


def any_of(table, nodes):
    """Return the node of the or of several functions."""
    result = ZERO
    for node in nodes:
        result = table.either(result, node)
    return result


def first_difference(table, ones, others):
    """Return the least case in which two lists of functions differ, None if they are equal."""
    differences = [table.differ(one, other) for one, other in zip(ones, others)]
    return table.first_case(any_of(table, differences))
