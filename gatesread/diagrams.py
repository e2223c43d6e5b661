"""Diagrams of functions from bits to a bit (points 63 and 64)."""

from gatesread.bits import check_bits
from gatesread.errors import NoSuchThing

ZERO = 0
ONE = 1


class Diagrams:
    """A table of diagrams without duplicates, so that each function has exactly one node."""

    def __init__(self, count):
        self._count = count
        # The nodes 0 and 1 have no variable; -1 is less than that of any other node.
        self._nodes = [(-1, ZERO, ZERO), (-1, ONE, ONE)]
        self._numbers = {}
        self._chosen = {}

    def size(self):
        """Return the number of nodes."""
        return len(self._nodes)

    def node(self, number):
        """Return the tuple of a node from 2 on."""
        self._check([number])
        if number in (ZERO, ONE):
            raise NoSuchThing(f"node {number} has no variable")
        return self._nodes[number]

    def variable(self, i):
        """Return the node of the function that is bit i."""
        if not 0 <= i < self._count:
            raise NoSuchThing(f"there is no variable {i}")
        return self._number_of(i, ZERO, ONE)

    def choose(self, f, g, h):
        """Return the node of the function that is g where f is 1, and h where f is 0."""
        self._check([f, g, h])
        return self._choose(f, g, h)

    def negate(self, f):
        """Return the node of the opposite of a function."""
        return self.choose(f, ZERO, ONE)

    def both(self, f, g):
        """Return the node of the and of two functions."""
        return self.choose(f, g, ZERO)

    def either(self, f, g):
        """Return the node of the or of two functions."""
        return self.choose(f, ONE, g)

    def differ(self, f, g):
        """Return the node of the xor of two functions."""
        self._check([f, g])
        return self._choose(f, self._choose(g, ZERO, ONE), g)

    def value(self, f, bits):
        """Return the value of a function for a list of bits, one for each variable."""
        self._check([f])
        check_bits(bits, self._count)
        number = f
        while number not in (ZERO, ONE):
            variable, low, high = self._nodes[number]
            number = high if bits[variable] == 1 else low
        return number

    def first_case(self, f):
        """Return the least case number for which a function is 1, None for node 0."""
        self._check([f])
        if f == ZERO:
            return None
        case = 0
        number = f
        # The greatest variable, which weighs more than all others together, comes first.
        while number != ONE:
            variable, low, high = self._nodes[number]
            if low == ZERO:
                case += 1 << variable
                number = high
            else:
                number = low
        return case

    def _check(self, numbers):
        """Raise NoSuchThing if one of the numbers is not that of a node."""
        for number in numbers:
            if not 0 <= number < len(self._nodes):
                raise NoSuchThing(f"there is no node {number}")

    def _number_of(self, variable, low, high):
        """Return the number of the node of a function, which is appended if it is not there."""
        if low == high:
            return low
        node = (variable, low, high)
        if node not in self._numbers:
            self._numbers[node] = len(self._nodes)
            self._nodes.append(node)
        return self._numbers[node]

    def _choose(self, f, g, h):
        """Return the node that choose returns; the arguments are numbers of nodes."""
        if f == ONE or g == h:
            return g
        if f == ZERO:
            return h
        asked = (f, g, h)
        if asked not in self._chosen:
            first = max([self._nodes[number][0] for number in asked])
            lows = [self._half(number, first, 1) for number in asked]
            highs = [self._half(number, first, 2) for number in asked]
            low = self._choose(lows[0], lows[1], lows[2])
            high = self._choose(highs[0], highs[1], highs[2])
            self._chosen[asked] = self._number_of(first, low, high)
        return self._chosen[asked]

    def _half(self, number, variable, side):
        """Return the node of a function where a variable is 0 (side 1) or 1 (side 2)."""
        node = self._nodes[number]
        return node[side] if node[0] == variable else number
