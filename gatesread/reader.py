"""Reading a netlist from a text, or finding its fault (points 4 to 6)."""

from gatesread.errors import InvalidNetlist
from gatesread.statements import Statements
from gatesread.tokens import split_tokens


def find_fault(text):
    """Return None if a text is a netlist, otherwise the kind and the place of its fault."""
    return text_fault(text, Statements())


def read_netlist(text):
    """Return the netlist of a text."""
    statements = Statements()
    fault = text_fault(text, statements)
    if fault is not None:
        kind, place = fault
        raise InvalidNetlist(kind, place)
    return statements.netlist()


def text_fault(text, statements):
    """Let the statements take the tokens of a text; return its fault or None."""
    for place, token in split_tokens(text):
        kind = statements.take(place, token)
        if kind is not None:
            return kind, place
    return whole_fault(text, statements)


def whole_fault(text, statements):
    """Return the fault of a text without a faulty token, or None."""
    if not statements.is_complete():
        return "syntax", len(text)
    for place, name in statements.uses:
        if name not in statements.places:
            return "name", place
    for gate in statements.gates:
        if depends_on_itself(gate[0], statements.gates):
            return "ring", statements.places[gate[0]]
    return None


def depends_on_itself(name, gates):
    """Return True if the net of a name depends on itself, otherwise False."""
    needs = {gate[0]: gate[2] for gate in gates if gate[1] != "latch"}
    reached = {}
    left = [name]
    while left:
        net = left.pop()
        for source in needs.get(net, ()):
            if source == name:
                return True
            if source not in reached:
                reached[source] = True
                left.append(source)
    return False
