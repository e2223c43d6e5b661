"""The cases of a circuit, and the flaws that they show (points 20 and 21)."""

from gatesread.cellvalues import stuck_values
from gatesread.circuits import check_net, end_nets
from gatesread.errors import NoSuchThing


def case_count(circuit):
    """Return the number of cases of a circuit."""
    return 1 << (circuit[0] + len(circuit[3]))


def case_bits(circuit, case):
    """Return the pair of the bits of the inputs and the states of the latch cells in a case."""
    if not 0 <= case < case_count(circuit):
        raise NoSuchThing(f"there is no case {case}")
    inputs = circuit[0]
    bits = [case >> i & 1 for i in range(inputs + len(circuit[3]))]
    return bits[:inputs], bits[inputs:]


def shows(circuit, flaw, case):
    """Return True if a case shows a flaw, otherwise False."""
    check_flaw(circuit, flaw)
    net, value = flaw
    return end_values(circuit, case, {net: value}) != end_values(circuit, case, {})


def check_flaw(circuit, flaw):
    """Raise NoSuchThing unless a flaw is a net of a circuit and a bit."""
    net, value = flaw
    check_net(circuit, net)
    if value not in (0, 1):
        raise NoSuchThing(f"no net is stuck at {value}")


def end_values(circuit, case, stuck):
    """Return the values of the outputs and the next states in a case, where some nets are stuck."""
    inputs, states = case_bits(circuit, case)
    values = stuck_values(circuit, inputs, states, stuck)
    return [values[net] for net in end_nets(circuit)]
