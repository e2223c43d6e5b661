"""Taking the tokens of a text one by one as the statements of a netlist (points 4 and 5)."""

from gatesread.gates import input_counts, is_kind
from gatesread.tokens import is_good

MOST_INPUTS = 6
MOST_OUTPUTS = 6
MOST_GATES = 40
MOST_LATCHES = 4


def is_name(token):
    """Return True if a good token is a word that is not reserved, otherwise False."""
    return token not in ("=", ";", "in", "out") and not is_kind(token)


class Statements:
    """What the tokens so far declare and use, and what may come next.

    Each method that takes a token returns the kind of its fault, or None.
    """

    def __init__(self):
        self.expects = "start"
        self.inputs = []
        self.outputs = []
        self.gates = []
        self.places = {}
        self.uses = []
        self.name = ""
        self.kind = ""
        self.names = []

    def take(self, place, token):
        """Take the next token of the text, with its place."""
        if not is_good(token):
            return "syntax"
        if self.expects == "start":
            return self.take_start(place, token)
        if self.expects == "equals":
            return self.take_equals(token)
        if self.expects == "kind":
            return self.take_kind(token)
        return self.take_listed(place, token)

    def take_start(self, place, token):
        """Take the first token of a statement."""
        if token in ("in", "out"):
            self.expects = token
            self.names = []
            return None
        if not is_name(token):
            return "syntax"
        self.name = token
        self.expects = "equals"
        return self.declare(place, token, len(self.gates) == MOST_GATES)

    def declare(self, place, name, full):
        """Declare a net, unless its name is declared already or no more such nets may be."""
        if name in self.places:
            return "name"
        if full:
            return "full"
        self.places[name] = place
        return None

    def take_equals(self, token):
        """Take the token behind the name of a gate."""
        if token != "=":
            return "syntax"
        self.expects = "kind"
        return None

    def take_kind(self, token):
        """Take the token behind the = of a gate."""
        if not is_kind(token):
            return "syntax"
        latches = [gate for gate in self.gates if gate[1] == "latch"]
        if token == "latch" and len(latches) == MOST_LATCHES:
            return "full"
        self.kind = token
        self.names = []
        self.expects = "sources"
        return None

    def take_listed(self, place, token):
        """Take a token of the list of names that ends each statement."""
        if token == ";":
            return self.take_end()
        if not is_name(token):
            return "syntax"
        self.names.append(token)
        if self.expects == "in":
            self.inputs.append(token)
            return self.declare(place, token, len(self.inputs) > MOST_INPUTS)
        self.uses.append((place, token))
        if self.expects == "out":
            return self.take_output(token)
        return self.take_source()

    def take_output(self, token):
        """Take a name in an out statement."""
        self.outputs.append(token)
        if len(self.outputs) > MOST_OUTPUTS:
            return "full"
        return None

    def take_source(self):
        """Take the last of the names so far as an input of a gate."""
        if len(self.names) > input_counts(self.kind)[1]:
            return "count"
        return None

    def take_end(self):
        """Take the ; that ends a list of names."""
        if self.expects == "sources":
            return self.take_gate_end()
        if not self.names:
            return "syntax"
        self.expects = "start"
        return None

    def take_gate_end(self):
        """Take the ; of a gate."""
        if len(self.names) < input_counts(self.kind)[0]:
            return "count"
        self.gates.append((self.name, self.kind, tuple(self.names)))
        self.expects = "start"
        return None

    def is_complete(self):
        """Return True if the text may end here, otherwise False."""
        return self.expects == "start" and len(self.outputs) > 0

    def netlist(self):
        """Return the netlist of the statements."""
        return tuple(self.inputs), tuple(self.outputs), tuple(self.gates)
