"""The transistors at the nodes, and the gates that they make up (points 56 and 57)."""

LIFTED_SIZES = (2, 3)


class Sides:
    """The n sides and p sides of the nodes of masks that were read back.

    The masks have a ground port and a power port, and each port has a node.
    """

    def __init__(self, readback):
        self._transistors = readback.transistors()
        self._supplies = {}
        for kind, number, node in readback.ports():
            if kind == "ground":
                self._supplies["n"] = node
            if kind == "power":
                self._supplies["p"] = node
        self._ends = [[] for _ in range(readback.node_count())]
        for number, (kind, gate, left, right) in enumerate(self._transistors):
            self._ends[left].append(number)
            self._ends[right].append(number)
        self._outer = outer_nodes(readback)

    def is_supply(self, node):
        """Return True if a node is ground or power, otherwise False."""
        return node in (self._supplies["n"], self._supplies["p"])

    def star(self, kind, node):
        """Return the list of the gates of the star of a node, empty if there is no star."""
        gates = []
        for number in self._side(kind, node):
            if self._other_end(number, node) != self._supplies[kind]:
                return []
            gates.append(self._gate(number))
        return gates

    def chain(self, kind, node):
        """Return the gates and the inner nodes of the chain of a node, empty if there is none."""
        side = self._side(kind, node)
        if len(side) != 1:
            return [], []
        number = side[0]
        gates = [self._gate(number)]
        passed = []
        # The walk ends: it began at a node with one transistor, and an inner node has just two.
        reached = self._other_end(number, node)
        while self._is_inner(kind, reached):
            passed.append(reached)
            number = self._other_transistor(number, reached)
            gates.append(self._gate(number))
            reached = self._other_end(number, reached)
        if reached != self._supplies[kind]:
            return [], []
        return gates, passed

    def _side(self, kind, node):
        """Return the list of the transistors of a kind at a node, each once."""
        numbers = sorted(set(self._ends[node]))
        return [number for number in numbers if self._transistors[number][0] == kind]

    def _gate(self, number):
        """Return the gate of a transistor."""
        return self._transistors[number][1]

    def _other_end(self, number, node):
        """Return the node at the other end of a transistor that has a node at an end."""
        kind, gate, left, right = self._transistors[number]
        return right if left == node else left

    def _other_transistor(self, number, node):
        """Return the other one of the two transistors at an inner node."""
        first, second = self._ends[node]
        return second if first == number else first

    def _is_inner(self, kind, node):
        """Return True if a node is inner for the side of a kind, otherwise False."""
        return (node not in self._outer and len(self._ends[node]) == 2
                and len(self._side(kind, node)) == 2)


def outer_nodes(readback):
    """Return a dict with the nodes that are used otherwise than as ends of transistors."""
    outer = {node: True for kind, number, node in readback.ports()}
    for kind, gate, left, right in readback.transistors():
        outer[gate] = True
    for d, q, latch in readback.boxes():
        outer[d] = True
        outer[q] = True
    return outer


def find_gate(sides, node):
    """Return the lifted gate that a node is, as its kind, its gates and its inner nodes, or None.

    The gates are in ascending order.
    """
    if sides.is_supply(node):
        return None
    n_star = sides.star("n", node)
    p_star = sides.star("p", node)
    if len(n_star) == 1 and n_star == p_star:
        return "not", n_star, []
    n_chain, passed = sides.chain("n", node)
    if are_opposite(n_chain, p_star):
        return "nand", sorted(p_star), passed
    p_chain, passed = sides.chain("p", node)
    if are_opposite(p_chain, n_star):
        return "nor", sorted(n_star), passed
    return None


def are_opposite(chain, star):
    """Return True if the gates of a chain and a star are the same 2 or 3, all different."""
    return (len(chain) in LIFTED_SIZES and sorted(chain) == sorted(star)
            and len(set(chain)) == len(chain))
