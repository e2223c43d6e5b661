"""The errors of the program."""


class GatesError(ValueError):
    """The base class of all errors that the program raises."""


class InvalidNetlist(GatesError):
    """A text is not a netlist; its fault has a kind and a place (point 5)."""

    def __init__(self, kind, place):
        self.kind = kind
        self.place = place


class InvalidValues(GatesError):
    """A list of values has a wrong length or a wrong item."""


class NoSuchThing(GatesError):
    """A number or a name is not that of anything."""


class TooLarge(GatesError):
    """Something has more parts than are allowed."""


class InvalidPlacement(GatesError):
    """A list is not a placement of the circuit."""


class BrokenMasks(GatesError):
    """The masks break a layout rule."""


class InvalidSheet(GatesError):
    """A text is not a sheet; line is the number of its first bad line."""

    def __init__(self, line):
        self.line = line


class NotLiftable(GatesError):
    """The masks cannot be lifted because of a node, or of None."""

    def __init__(self, node):
        self.node = node
