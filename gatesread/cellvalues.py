"""The values of the nets of a circuit (point 18)."""

from gatesread.bits import check_bits
from gatesread.cellkinds import cell_value


def cell_values(circuit, inputs, states):
    """Return the list of the values of all nets of a circuit."""
    check_bits(inputs, circuit[0])
    check_bits(states, len(circuit[3]))
    values = list(inputs)
    latch = 0
    for kind, sources, output in circuit[1]:
        if kind == "latch":
            values.append(states[latch])
            latch += 1
        else:
            values.append(cell_value(kind, [values[net] for net in sources]))
    return values


def circuit_outputs(circuit, inputs, states):
    """Return the list of the values of the outputs."""
    values = cell_values(circuit, inputs, states)
    return [values[net] for net in circuit[2]]


def circuit_next(circuit, inputs, states):
    """Return the list of the next states of the latch cells."""
    values = cell_values(circuit, inputs, states)
    return [values[sources[0]] for kind, sources, output in circuit[1] if kind == "latch"]
