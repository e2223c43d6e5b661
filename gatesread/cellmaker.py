"""Making cells without duplicates (point 16)."""


class CellMaker:
    """The cells that are made so far, as pairs of kind and inputs, and the latches they hold.

    The output of cell k is net input_count + k, as in a circuit (point 14).
    """

    def __init__(self, input_count):
        self.input_count = input_count
        self.cells = []
        self.held = {}
        self._outputs = {}

    def make_latch(self, latch):
        """Return the output of a new latch cell, which has no input yet."""
        self.held[len(self.cells)] = latch
        return self._new_cell("latch", ())

    def connect_latch(self, cell, net):
        """Give a latch cell its input."""
        self.cells[cell] = ("latch", (net,))

    def make_tie(self, kind):
        """Return the output of a tie0 or a tie1."""
        return self._find_cell(kind, ())

    def make_not(self, net):
        """Return the net that is the not of a net."""
        source = self._source_of_not(net)
        if source is not None:
            return source
        return self._find_cell("not", (net,))

    def make_nand(self, nets):
        """Return the net that is the nand of two or three nets."""
        return self._make_gate("nand", nets)

    def make_nor(self, nets):
        """Return the net that is the nor of two or three nets."""
        return self._make_gate("nor", nets)

    def _make_gate(self, kind, nets):
        """Return the net that is the nand or the nor of nets, of which some may be equal."""
        different = without_repeats(nets)
        if len(different) == 1:
            return self.make_not(different[0])
        return self._find_cell(f"{kind}{len(different)}", tuple(different))

    def _source_of_not(self, net):
        """Return the input of the not whose output a net is, or None if it is none."""
        if net < self.input_count:
            return None
        kind, sources = self.cells[net - self.input_count]
        if kind == "not":
            return sources[0]
        return None

    def _find_cell(self, kind, nets):
        """Return the output of the cell of a kind with these inputs, which is new if need be."""
        cell = (kind, nets)
        if cell not in self._outputs:
            self._outputs[cell] = self._new_cell(kind, nets)
        return self._outputs[cell]

    def _new_cell(self, kind, nets):
        """Return the output of a new cell."""
        self.cells.append((kind, nets))
        return self.input_count + len(self.cells) - 1


def without_repeats(nets):
    """Return the list of nets without those that stand further ahead, too."""
    different = []
    for net in nets:
        if net not in different:
            different.append(net)
    return different
