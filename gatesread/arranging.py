"""Arrangements: placements with pads and feeds (points 24 and 28)."""

from gatesread.placing import check_placement
from gatesread.things import first_column, placed_nets, thing_end, thing_pins


def arrange(circuit, placement):
    """Return the arrangement of a placement."""
    check_placement(circuit, placement)
    nets = placed_nets(circuit, placement)
    arrangement = []
    for index, names in enumerate(placed_names(circuit, placement)):
        feeds = [("feed", net) for net in passing_nets(nets, index)]
        arrangement.append(row_things(circuit, index - 1, names + feeds))
    return arrangement


def placed_names(circuit, placement):
    """Return the things of each row from row -1 on, as pairs of kind and number."""
    rows = [[("input", i) for i in range(circuit[0])]]
    for cells in placement:
        rows.append([("cell", cell) for cell in cells])
    rows.append([("output", i) for i in range(len(circuit[2]))])
    return rows


def passing_nets(nets, index):
    """Return the ascending list of the nets that need a feed in a row.

    nets is a list of the nets of the pins of each row. It need not tell the pins of feeds: a net
    with a feed in a row has a pin of another kind in a lower row, too.
    """
    lower = [net for row in nets[:index] for net in row]
    higher = [net for row in nets[index + 1:] for net in row]
    return [net for net in sorted(set(lower)) if net in higher and net not in nets[index]]


def row_things(circuit, row, names):
    """Return the list of the things of a row with their first columns."""
    things = []
    column = first_column(row)
    for kind, number in names:
        things.append((kind, number, column))
        column = thing_end(circuit, things[-1])
    return things


def arranged_pins(circuit, arrangement):
    """Return the list of all pins as (net, row, column), by rows and from left to right."""
    return [(net, index - 1, column) for index, things in enumerate(arrangement)
            for thing in things for net, column in thing_pins(circuit, thing)]
