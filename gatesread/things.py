"""The things of the rows, and their pins (point 24).

Each pin takes up two columns of its thing, and stands in the second one of these.
"""


def first_column(row):
    """Return the column at which a row starts; rows are numbered from -1."""
    return 1 - row % 2


def cell_nets(circuit, cell):
    """Return the list of the nets of the pins of a cell."""
    kind, sources, output = circuit[1][cell]
    return [*sources, output]


def thing_nets(circuit, kind, number):
    """Return the list of the nets of the pins of a thing."""
    if kind == "cell":
        return cell_nets(circuit, number)
    if kind == "output":
        return [circuit[2][number]]
    return [number]


def thing_pins(circuit, thing):
    """Return the list of the pins of a thing of an arrangement, as pairs of net and column."""
    kind, number, column = thing
    return [(net, column + 1 + 2 * i) for i, net in enumerate(thing_nets(circuit, kind, number))]


def thing_end(circuit, thing):
    """Return the column behind the last one of a thing of an arrangement."""
    kind, number, column = thing
    return column + 2 * len(thing_nets(circuit, kind, number))


def placed_nets(circuit, placement):
    """Return the nets of the pins of each row from row -1 on, without feeds."""
    rows = [list(range(circuit[0]))]
    for cells in placement:
        rows.append([net for cell in cells for net in cell_nets(circuit, cell)])
    rows.append(list(circuit[2]))
    return rows
