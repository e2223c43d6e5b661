"""Comparing two netlists for all inputs and states (point 65)."""

from gatesread.diagrams import Diagrams
from gatesread.errors import NoSuchThing
from gatesread.functions import first_difference, gate_function
from gatesread.ordering import latch_gates, logic_order


def net_functions(netlist):
    """Return a table over the variables of a netlist and a dict from each net to its node."""
    table = Diagrams(len(netlist[0]) + len(latch_gates(netlist)))
    return table, add_functions(table, netlist)


def add_functions(table, netlist):
    """Return a dict from each net's name to its node in a table, to which it may be added."""
    sources = list(netlist[0]) + [latch[0] for latch in latch_gates(netlist)]
    nodes = {name: table.variable(i) for i, name in enumerate(sources)}
    for name, kind, inputs in logic_order(netlist):
        nodes[name] = gate_function(table, kind, [nodes[source] for source in inputs])
    return nodes


def find_difference(first, second):
    """Return None if two netlists are equivalent, otherwise their difference."""
    if netlist_size(first) != netlist_size(second):
        raise NoSuchThing("the netlists have not the same size")
    table, nodes = net_functions(first)
    others = add_functions(table, second)
    return first_difference(table, end_functions(first, nodes), end_functions(second, others))


def netlist_size(netlist):
    """Return the numbers of inputs, of outputs and of latches of a netlist."""
    return len(netlist[0]), len(netlist[1]), len(latch_gates(netlist))


def end_functions(netlist, nodes):
    """Return the nodes of the outputs of a netlist, and then of the next states of its latches."""
    ends = list(netlist[1]) + [latch[2][0] for latch in latch_gates(netlist)]
    return [nodes[name] for name in ends]
