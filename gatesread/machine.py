"""Running a circuit that was read back from its masks (point 53)."""

from gatesread.errors import InvalidValues
from gatesread.fixing import node_levels
from gatesread.levels import OPEN
from gatesread.readback import Readback


class Machine:
    """The circuit of masks, with a state for each latch that a box holds."""

    def __init__(self, rectangles, labels):
        self._readback = Readback(rectangles, labels)
        self._states = [0] * len(held_latches(self._readback))

    def input_numbers(self):
        """Return the ascending list of the numbers of the input labels."""
        return port_numbers(self._readback, "input")

    def output_numbers(self):
        """Return the ascending list of the numbers of the output labels."""
        return port_numbers(self._readback, "output")

    def latch_numbers(self):
        """Return the ascending list of the numbers of the latches that boxes hold."""
        return held_latches(self._readback)

    def states(self):
        """Return the list of the states of the latches, each 0, 1 or None."""
        return list(self._states)

    def load(self, states):
        """Replace the states; after InvalidValues they stay."""
        check_values(states, len(self._states))
        self._states = list(states)

    def levels(self, inputs):
        """Return the list of the levels of all nodes for the inputs and the present states."""
        numbers = self.input_numbers()
        check_values(inputs, len(numbers))
        known = {number: value for number, value in zip(numbers, inputs)}
        held = {number: state for number, state in zip(self.latch_numbers(), self._states)}
        return node_levels(self._readback, known, held)

    def clock(self, inputs):
        """Return the list of the outputs, and then change the states to the next ones."""
        levels = self.levels(inputs)
        self._states = next_latches(self._readback, levels)
        return output_levels(self._readback, levels)


def port_numbers(readback, wanted):
    """Return the ascending list of the numbers of the labels of a kind."""
    return sorted([number for kind, number, node in readback.ports() if kind == wanted])


def held_latches(readback):
    """Return the ascending list of the numbers of the latches that boxes hold, each once."""
    return sorted(set([latch for d, q, latch in readback.boxes() if latch is not None]))


def output_levels(readback, levels):
    """Return the list of the levels of the outputs, in ascending order of their numbers."""
    outputs = sorted([port for port in readback.ports() if port[0] == "output"],
                     key=lambda port: port[1])
    return [OPEN if node is None else levels[node] for kind, number, node in outputs]


def next_latches(readback, levels):
    """Return the list of the next states, in ascending order of the latches."""
    states = {}
    for d, q, latch in readback.boxes():
        # Only the first box that holds a latch counts.
        if latch not in states:
            states[latch] = levels[d] if levels[d] in (0, 1) else None
    return [states[latch] for latch in held_latches(readback)]


def check_values(values, count):
    """Raise InvalidValues unless values is a list of count items that are 0, 1 or None."""
    if len(values) != count:
        raise InvalidValues(f"{len(values)} values instead of {count}")
    for value in values:
        if value not in (0, 1, None):
            raise InvalidValues(f"{value!r} is neither a bit nor None")
