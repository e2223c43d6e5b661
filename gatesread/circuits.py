"""The nets of a circuit (point 14)."""

from gatesread.errors import NoSuchThing


def net_count(circuit):
    """Return the number of nets."""
    return circuit[0] + len(circuit[1])


def check_net(circuit, net):
    """Raise NoSuchThing if a circuit has no such net."""
    if not 0 <= net < net_count(circuit):
        raise NoSuchThing(f"there is no net {net}")


def latch_inputs(circuit):
    """Return the list of the nets of the inputs of the latch cells."""
    return [sources[0] for kind, sources, output in circuit[1] if kind == "latch"]


def end_nets(circuit):
    """Return the list of the nets of the outputs, and then of the inputs of the latch cells."""
    return [*circuit[2], *latch_inputs(circuit)]
