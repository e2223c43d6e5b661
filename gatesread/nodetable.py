"""Nodes without duplicates (points 10 and 11)."""

from gatesread.errors import NoSuchThing

ZERO = 0
ONE = 1
FIRST_INPUT = 2


class NodeTable:
    """A table of nodes, each found by the rules of point 11."""

    def __init__(self, input_count, latch_count):
        self._input_count = input_count
        self._latch_count = latch_count
        self._nodes = []
        self._numbers = {}
        self._number_of(("zero",))
        self._number_of(("one",))
        for i in range(input_count):
            self._number_of(("input", i))
        for i in range(latch_count):
            self._number_of(("latch", i))

    def size(self):
        """Return the number of nodes."""
        return len(self._nodes)

    def node(self, number):
        """Return a node, a tuple."""
        self._check([number])
        return self._nodes[number]

    def input_node(self, i):
        """Return the number of the node of an input."""
        if not 0 <= i < self._input_count:
            raise NoSuchThing(f"there is no input {i}")
        return FIRST_INPUT + i

    def latch_node(self, i):
        """Return the number of the node of a latch."""
        if not 0 <= i < self._latch_count:
            raise NoSuchThing(f"there is no latch {i}")
        return FIRST_INPUT + self._input_count + i

    def find_not(self, x):
        """Return the number of the not of a node."""
        self._check([x])
        if x == ZERO:
            return ONE
        if x == ONE:
            return ZERO
        if self._is_not(x):
            return self._without_not(x)
        return self._number_of(("not", x))

    def find_and(self, nodes):
        """Return the number of the and of two or three nodes."""
        self._check(nodes)
        return self._combine("and", nodes, ZERO, ONE)

    def find_or(self, nodes):
        """Return the number of the or of two or three nodes."""
        self._check(nodes)
        return self._combine("or", nodes, ONE, ZERO)

    def find_xor(self, x, y):
        """Return the number of the xor of two nodes."""
        self._check([x, y])
        result = self._plain_xor(self._without_not(x), self._without_not(y))
        if self._is_not(x) != self._is_not(y):
            return self.find_not(result)
        return result

    def find_mux(self, s, a, b):
        """Return the number of the mux of three nodes."""
        self._check([s, a, b])
        if self._is_not(s):
            return self.find_mux(self._without_not(s), b, a)
        if s == ZERO:
            return a
        if s == ONE:
            return b
        if a == b:
            return a
        if a == ZERO and b == ONE:
            return s
        if a == ONE and b == ZERO:
            return self.find_not(s)
        if a == ZERO:
            return self.find_and([s, b])
        if b == ZERO:
            return self.find_and([self.find_not(s), a])
        if a == ONE:
            return self.find_or([self.find_not(s), b])
        if b == ONE:
            return self.find_or([s, a])
        return self._number_of(("mux", s, a, b))

    def _check(self, numbers):
        """Raise NoSuchThing if one of the numbers is not that of a node."""
        for number in numbers:
            if not 0 <= number < len(self._nodes):
                raise NoSuchThing(f"there is no node {number}")

    def _number_of(self, node):
        """Return the number of a node, which is appended if it is not there."""
        if node not in self._numbers:
            self._numbers[node] = len(self._nodes)
            self._nodes.append(node)
        return self._numbers[node]

    def _is_not(self, number):
        """Return True if a node is the not of another one, otherwise False."""
        return self._nodes[number][0] == "not"

    def _without_not(self, number):
        """Return the number of the node that a node is the not of, or its own if it is none."""
        if self._is_not(number):
            return self._nodes[number][1]
        return number

    def _combine(self, kind, nodes, deciding, neutral):
        """Return the number of the and, or of the or, of nodes.

        One deciding node is the result whatever the others are; neutral ones do not count.
        """
        if deciding in nodes or self._has_opposites(nodes):
            return deciding
        left = [number for number in sorted(set(nodes)) if number != neutral]
        if not left:
            return neutral
        if len(left) == 1:
            return left[0]
        return self._number_of((kind, *left))

    def _has_opposites(self, nodes):
        """Return True if a node and its not are among nodes, otherwise False."""
        return any([self._is_not(x) and self._without_not(x) in nodes for x in nodes])

    def _plain_xor(self, x, y):
        """Return the number of the xor of two nodes of which none is a not."""
        if x == ZERO:
            return y
        if y == ZERO:
            return x
        if x == ONE:
            return self.find_not(y)
        if y == ONE:
            return self.find_not(x)
        if x == y:
            return ZERO
        return self._number_of(("xor", min(x, y), max(x, y)))
