"""Comparing masks that were read back with a circuit and a netlist (points 54 and 55)."""

from gatesread.arranging import arranged_pins
from gatesread.circuits import net_count
from gatesread.fixing import node_levels
from gatesread.gates import next_states, output_values
from gatesread.grid import channel_tops, middle
from gatesread.mapping import map_cells

# The heights of the places of pins: of pads above the bottom of the masks or the last channel, of
# other things above the bottom of their row.
PAD_HEIGHT = 2
PIN_HEIGHT = 26


def pin_places(circuit, arrangement, channels):
    """Return for each net the list of the places of its pins."""
    heights = row_heights(channels)
    places = [[] for _ in range(net_count(circuit))]
    for net, row, column in arranged_pins(circuit, arrangement):
        places[net].append((middle(column), heights[row + 1]))
    return places


def row_heights(channels):
    """Return the list of the heights of the places of the pins of each row, from row -1 on."""
    tops = channel_tops(channels)
    return [PAD_HEIGHT, *[top + PIN_HEIGHT for top in tops[:-1]], tops[-1] + PAD_HEIGHT]


def open_nets(readback, places):
    """Return the ascending list of the nets that are open."""
    return [net for net, node in enumerate(net_nodes(readback, places)) if node is None]


def short_nets(readback, places):
    """Return the ascending list of the nets that are short."""
    nodes = net_nodes(readback, places)
    return [net for net, node in enumerate(nodes) if node is not None and nodes.count(node) > 1]


def net_nodes(readback, places):
    """Return for each net the node of all its pins, None if the net is open."""
    return [common_node(readback, net_places) for net_places in places]


def common_node(readback, net_places):
    """Return the node of all places of a net, or None if there is no such node."""
    nodes = [readback.node_at("metal2", x, y) for x, y in net_places]
    if nodes.count(nodes[0]) < len(nodes):
        return None
    return nodes[0]


def agrees(netlist, readback, inputs, states):
    """Return True if masks agree with a netlist in a case, otherwise False."""
    outputs = output_values(netlist, inputs, states)
    after = next_states(netlist, inputs, states)
    needed = map_cells(netlist)[3]
    levels = node_levels(readback, dict(enumerate(inputs)), dict(enumerate(states)))
    return (have_outputs(readback, levels, outputs) and have_states(readback, levels, after)
            and hold_latches(readback, needed))


def have_outputs(readback, levels, outputs):
    """Return True if for each output there is a port with its value, otherwise False."""
    nodes = {number: node for kind, number, node in readback.ports() if kind == "output"}
    for number, value in enumerate(outputs):
        node = nodes.get(number)
        if node is None or levels[node] != value:
            return False
    return True


def have_states(readback, levels, after):
    """Return True if each box of a latch of the netlist has its next state at d."""
    for d, q, latch in readback.boxes():
        if latch is not None and latch < len(after) and levels[d] != after[latch]:
            return False
    return True


def hold_latches(readback, needed):
    """Return True if each of the needed latches is held by a box, otherwise False."""
    held = [latch for d, q, latch in readback.boxes()]
    return all([latch in held for latch in needed])
