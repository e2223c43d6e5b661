"""The times at which the values of the nets arrive (points 33 and 34)."""

from gatesread.circuits import check_net, end_nets, net_count
from gatesread.lengths import net_length

LENGTH_OF_LOAD = 24

OWN_DELAYS = {"not": 2, "nand2": 3, "nor2": 3, "nand3": 4, "nor3": 5}


def net_load(circuit, channels, net):
    """Return the load of a net."""
    check_net(circuit, net)
    pins = [source for kind, sources, output in circuit[1] for source in sources]
    pins += circuit[2]
    return pins.count(net) + net_length(channels, net) // LENGTH_OF_LOAD


def cell_delay(kind, load):
    """Return the delay of a cell of a kind other than latch, tie0 and tie1.

    load is the load of its output net.
    """
    return load + OWN_DELAYS[kind]


def net_arrivals(circuit, channels):
    """Return the list of the arrivals of all nets."""
    loads = [net_load(circuit, channels, net) for net in range(net_count(circuit))]
    arrivals = loads[:circuit[0]]
    for kind, sources, output in circuit[1]:
        if kind == "latch":
            arrivals.append(loads[output])
        elif kind in ("tie0", "tie1"):
            arrivals.append(0)
        else:
            latest = max([arrivals[net] for net in sources])
            arrivals.append(latest + cell_delay(kind, loads[output]))
    return arrivals


def longest_time(circuit, channels):
    """Return the longest time."""
    arrivals = net_arrivals(circuit, channels)
    return max([arrivals[net] for net in end_nets(circuit)])


def longest_path(circuit, channels):
    """Return the longest path, a list of nets from its start to its end."""
    arrivals = net_arrivals(circuit, channels)
    path = [first_latest(sorted(end_nets(circuit)), arrivals)]
    sources = gate_sources(circuit, path[0])
    while sources:
        path.insert(0, first_latest(sources, arrivals))
        sources = gate_sources(circuit, path[0])
    return path


def first_latest(nets, arrivals):
    """Return the first one of the nets that arrive latest."""
    times = [arrivals[net] for net in nets]
    return nets[times.index(max(times))]


def gate_sources(circuit, net):
    """Return the inputs of the cell whose output a net is.

    There are none if it is an input of the circuit or the output of a latch, tie0 or tie1.
    """
    if net < circuit[0]:
        return ()
    kind, sources, output = circuit[1][net - circuit[0]]
    if kind == "latch":
        return ()
    return sources
