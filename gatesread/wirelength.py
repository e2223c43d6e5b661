"""The wire that a placement needs (point 26)."""

from gatesread.circuits import check_net, net_count
from gatesread.placing import check_placement
from gatesread.things import first_column, placed_nets

ROW_COST = 8


def net_wire(circuit, placement, net):
    """Return the wire of a net."""
    check_placement(circuit, placement)
    check_net(circuit, net)
    return all_wires(circuit, placement)[net]


def placement_wire(circuit, placement):
    """Return the wire of a placement."""
    check_placement(circuit, placement)
    return sum(all_wires(circuit, placement))


def all_wires(circuit, placement):
    """Return the list of the wires of all nets for a list that is a placement."""
    columns = [[] for _ in range(net_count(circuit))]
    rows = [[] for _ in range(net_count(circuit))]
    for index, nets in enumerate(placed_nets(circuit, placement)):
        column = first_column(index - 1) + 1
        for net in nets:
            columns[net].append(column)
            rows[net].append(index)
            column += 2
    # The rows of a net were added in ascending order.
    return [max(xs) - min(xs) + ROW_COST * (ys[-1] - ys[0]) for xs, ys in zip(columns, rows)]
