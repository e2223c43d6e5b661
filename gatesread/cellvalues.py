"""The values of the nets of a circuit (point 18)."""

from gatesread.bits import check_bits
from gatesread.cellkinds import cell_value
from gatesread.circuits import latch_inputs


def cell_values(circuit, inputs, states):
    """Return the list of the values of all nets of a circuit."""
    check_bits(inputs, circuit[0])
    check_bits(states, len(circuit[3]))
    return stuck_values(circuit, inputs, states, {})


def stuck_values(circuit, inputs, states, stuck):
    """Return the list of the values of all nets where some are stuck (point 21).

    stuck is a dict from these nets to the values at which they are stuck.
    """
    values = [stuck.get(net, bit) for net, bit in enumerate(inputs)]
    latch = 0
    for kind, sources, output in circuit[1]:
        if kind == "latch":
            value = states[latch]
            latch += 1
        else:
            value = cell_value(kind, [values[net] for net in sources])
        values.append(stuck.get(output, value))
    return values


def circuit_outputs(circuit, inputs, states):
    """Return the list of the values of the outputs."""
    values = cell_values(circuit, inputs, states)
    return [values[net] for net in circuit[2]]


def circuit_next(circuit, inputs, states):
    """Return the list of the next states of the latch cells."""
    values = cell_values(circuit, inputs, states)
    return [values[net] for net in latch_inputs(circuit)]
