"""A netlist that is clocked (point 9)."""

from gatesread.bits import check_bits
from gatesread.gates import next_states, output_values
from gatesread.ordering import latch_gates


class Clocked:
    """A netlist with a state for each latch."""

    def __init__(self, netlist):
        self._netlist = netlist
        self._states = [0] * len(latch_gates(netlist))

    def states(self):
        """Return the list of the states."""
        return list(self._states)

    def load(self, states):
        """Replace the states; after InvalidValues they stay."""
        check_bits(states, len(self._states))
        self._states = list(states)

    def clock(self, inputs):
        """Return the list of the outputs, and then change the states to the next ones."""
        outputs = output_values(self._netlist, inputs, self._states)
        self._states = next_states(self._netlist, inputs, self._states)
        return outputs
