"""The levels of the nodes of a circuit of transistors (point 52)."""

from gatesread.errors import NoSuchThing

OPEN = 2
UNKNOWN = 3

# The level of its gate at which a transistor of a kind is on.
ON_LEVELS = {"n": 1, "p": 0}


def switch_state(kind, level):
    """Return the state of a transistor of a kind whose gate has a level."""
    if level in (OPEN, UNKNOWN):
        return "undecided"
    if level == ON_LEVELS[kind]:
        return "on"
    return "off"


def settle(node_count, transistors, fixed):
    """Return the list of the levels of all nodes at the end."""
    check_nodes(node_count, transistors, fixed)
    levels = [fixed.get(node, UNKNOWN) for node in range(node_count)]
    after = next_levels(levels, transistors, fixed)
    while after != levels:
        levels = after
        after = next_levels(levels, transistors, fixed)
    return levels


def check_nodes(node_count, transistors, fixed):
    """Raise NoSuchThing if a transistor or fixed names a node that is not there."""
    named = list(fixed)
    for kind, gate, left, right in transistors:
        named += [gate, left, right]
    for node in named:
        if not 0 <= node < node_count:
            raise NoSuchThing(f"there is no node {node}")


def next_levels(levels, transistors, fixed):
    """Return the list of the levels of all nodes after a round."""
    sure = find_links(levels, transistors, ("on",))
    possible = find_links(levels, transistors, ("on", "undecided"))
    surely_0 = nodes_with_path(sure, fixed, (0,))
    surely_1 = nodes_with_path(sure, fixed, (1,))
    maybe_0 = nodes_with_path(possible, fixed, (0, UNKNOWN))
    maybe_1 = nodes_with_path(possible, fixed, (1, UNKNOWN))
    after = list(levels)
    for node in range(len(levels)):
        if node not in fixed:
            may = (node in maybe_0, node in maybe_1)
            after[node] = node_level(node in surely_0, node in surely_1, may)
    return after


def node_level(surely_0, surely_1, may):
    """Return the level of a node from what it surely has, and whether it may have 0 and 1."""
    if surely_0 and not may[1]:
        return 0
    if surely_1 and not may[0]:
        return 1
    if may == (False, False):
        return OPEN
    return UNKNOWN


def find_links(levels, transistors, states):
    """Return for each node the list of the nodes at the other ends of its transistors.

    Only the transistors in one of the given states count.
    """
    links = [[] for _ in levels]
    for kind, gate, left, right in transistors:
        if switch_state(kind, levels[gate]) in states:
            links[left].append(right)
            links[right].append(left)
    return links


def nodes_with_path(links, fixed, ends):
    """Return a dict with the nodes that have a path to a node that is fixed at one of the ends.

    The paths are gone backwards, from the fixed nodes, so that they pass through no other one.
    """
    found = {}
    left = [node for node, level in fixed.items() if level in ends]
    while left:
        node = left.pop()
        for other in links[node]:
            if other not in fixed and other not in found:
                found[other] = True
                left.append(other)
    return found
