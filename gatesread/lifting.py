"""Lifting masks that were read back to a netlist (points 58 and 59)."""

from gatesread.errors import NotLiftable
from gatesread.reader import depends_on_itself
from gatesread.sides import Sides, find_gate

NEEDED_PORTS = ("ground", "power", "output")

# The kinds of the gates that stand for the nodes of supply ports.
SUPPLY_GATES = (("ground", "zero"), ("power", "one"))


def lift(readback):
    """Return the lifted netlist."""
    check_ports(readback)
    gates, passed = lifted_gates(readback)
    fault = least_fault(readback, gates, passed)
    if fault is not None:
        raise NotLiftable(fault)
    named = []
    for node, kind, sources in supply_gates(readback, gates) + held_boxes(readback) + gates:
        named.append((f"n{node}", kind, node_names(sources)))
    inputs = node_names(port_nodes(readback, "input"))
    return inputs, node_names(port_nodes(readback, "output")), tuple(named)


def node_names(nodes):
    """Return the tuple of the names of the nets of nodes."""
    return tuple([f"n{node}" for node in nodes])


def check_ports(readback):
    """Raise NotLiftable if a port or its node is missing, or two boxes hold the same latch."""
    ports = readback.ports()
    kinds = [kind for kind, number, node in ports]
    nodes = [node for kind, number, node in ports]
    latches = [latch for d, q, latch in readback.boxes() if latch is not None]
    if None in nodes or len(set(latches)) < len(latches):
        raise NotLiftable(None)
    if not all([kind in kinds for kind in NEEDED_PORTS]):
        raise NotLiftable(None)


def lifted_gates(readback):
    """Return the pair of the list of the lifted gates and the list of their inner nodes.

    Lifted gates are gates with nodes in the place of names, in ascending order of the nodes.
    """
    sides = Sides(readback)
    gates = []
    inner = []
    for node in range(readback.node_count()):
        found = find_gate(sides, node)
        if found is not None:
            kind, sources, passed = found
            gates.append((node, kind, tuple(sources)))
            inner += passed
    return gates, inner


def port_nodes(readback, wanted):
    """Return the nodes of the ports of a kind, in ascending order of the ports' numbers."""
    found = [(number, node) for kind, number, node in readback.ports() if kind == wanted]
    return [node for number, node in sorted(found)]


def held_boxes(readback):
    """Return the boxes that hold a latch as gates, in ascending order of the latches."""
    found = [(latch, d, q) for d, q, latch in readback.boxes() if latch is not None]
    return [(q, "latch", (d,)) for latch, d, q in sorted(found)]


def supply_gates(readback, gates):
    """Return the gates zero and one, each only where it is needed."""
    needed = port_nodes(readback, "output")
    for name, kind, sources in gates + held_boxes(readback):
        needed += sources
    found = []
    for port, kind in SUPPLY_GATES:
        node = port_nodes(readback, port)[0]
        if node in needed:
            found.append((node, kind, ()))
    return found


def least_fault(readback, gates, passed):
    """Return the least node because of which masks cannot be lifted, or None."""
    faults = floating_ends(readback, gates, passed)
    faults += wrong_drivers(readback, gates)
    faults += [node for node, kind, sources in gates if depends_on_itself(node, gates)]
    return min(faults, default=None)


def floating_ends(readback, gates, passed):
    """Return the nodes at which a transistor ends without being part of a lifted gate there."""
    known = {node: True for node, kind, sources in gates}
    for node in port_nodes(readback, "ground") + port_nodes(readback, "power") + passed:
        known[node] = True
    ends = [node for transistor in readback.transistors() for node in transistor[2:]]
    return [node for node in ends if node not in known]


def wrong_drivers(readback, gates):
    """Return the nodes that get their level from two things, or need it and get it from none."""
    boxes = held_boxes(readback)
    drivers = [0] * readback.node_count()
    for kind in ("ground", "power", "input"):
        for node in port_nodes(readback, kind):
            drivers[node] += 1
    for node, kind, sources in boxes + gates:
        drivers[node] += 1
    needing = port_nodes(readback, "output") + [sources[0] for node, kind, sources in boxes]
    needing += [transistor[1] for transistor in readback.transistors()]
    faults = [node for node, count in enumerate(drivers) if count > 1]
    return faults + [node for node in needing if drivers[node] == 0]
