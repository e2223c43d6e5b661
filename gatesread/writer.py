"""Writing a netlist as a text (point 7)."""


def write_netlist(netlist):
    """Return the written form of a netlist."""
    inputs, outputs, gates = netlist
    lines = []
    if inputs:
        lines.append(write_statement(["in", *inputs]))
    for name, kind, sources in gates:
        lines.append(write_statement([name, "=", kind, *sources]))
    lines.append(write_statement(["out", *outputs]))
    return "".join(lines)


def write_statement(words):
    """Return the line of a statement."""
    return " ".join(words) + ";\n"
