"""Points 56 to 59: lifting the transistors of masks back to gates."""

import unittest

import layouts
import samples
from gatesread.cellvalues import circuit_next, circuit_outputs
from gatesread.equivalence import find_difference
from gatesread.errors import NotLiftable
from gatesread.gates import next_states, output_values
from gatesread.lifting import lift
from gatesread.listing import list_cells
from gatesread.machine import Machine
from gatesread.readback import Readback
from test_levels import inverter

# In all layouts here node 0 is ground and node 1 is power.
SUPPLIES = [("ground", 0, 0), ("power", 0, 1)]


def nand(gates, inner, output):
    """A nand over the inner nodes, which are one fewer than the gates."""
    row = [0, *inner, output]
    chain = [("n", gate, row[k], row[k + 1]) for k, gate in enumerate(gates)]
    return chain + [("p", gate, output, 1) for gate in gates]


def nor(gates, inner, output):
    row = [1, *inner, output]
    chain = [("p", gate, row[k + 1], row[k]) for k, gate in enumerate(gates)]
    return [("n", gate, 0, output) for gate in gates] + chain


class LiftByWords:
    """Points 56 to 59 for nodes, transistors, ports and boxes, with sets of transistor numbers."""

    def __init__(self, node_count, transistors, ports, boxes):
        self.nodes = range(node_count)
        self.transistors = transistors
        self.boxes = [box for box in boxes if box[2] is not None]
        self.port_list = ports
        self.ports = {kind: [(n, node) for k, n, node in sorted(ports, key=lambda port: port[1]) if k == kind]
                      for kind in ("ground", "power", "input", "output")}
        self.outer = {node for kind, number, node in ports}
        self.outer |= {node for d, q, latch in boxes for node in (d, q)}
        self.outer |= {transistor[1] for transistor in transistors}

    def at(self, node):
        return [k for k, transistor in enumerate(self.transistors) if node in transistor[2:]]

    def side(self, kind, node):
        return [k for k in self.at(node) if self.transistors[k][0] == kind]

    def end(self, k, node):
        left, right = self.transistors[k][2:]
        return left if right == node else right

    def gates(self, numbers):
        return [self.transistors[k][1] for k in numbers]

    def star(self, kind, node):
        return all(self.end(k, node) == self.supply[kind] for k in self.side(kind, node))

    def inner(self, kind, node):
        ends = [self.transistors[k][2:].count(node) for k in self.at(node)]
        return ends == [1, 1] and len(self.side(kind, node)) == 2 and node not in self.outer

    def walk(self, kind, node, k):
        """The transistors of the walk from a node over transistor k, the inner nodes, and its end."""
        there = self.end(k, node)
        if not self.inner(kind, there):
            return [k], [], there
        onward, = set(self.at(there)) - {k}
        numbers, passed, end = self.walk(kind, there, onward)
        return [k] + numbers, [there] + passed, end

    def chain(self, kind, node):
        side = self.side(kind, node)
        if len(side) == 1:
            numbers, passed, end = self.walk(kind, node, side[0])
            if end == self.supply[kind]:
                return numbers, passed
        return None

    def lifted(self, node):
        if node in self.supply.values():
            return None
        sides = {kind: self.gates(self.side(kind, node)) for kind in "np"}
        stars = {kind: self.star(kind, node) for kind in "np"}
        if stars["n"] and stars["p"] and sides["n"] == sides["p"] and len(sides["n"]) == 1:
            return "not", sides["n"], []
        for name, one, other in (("nand", "n", "p"), ("nor", "p", "n")):
            chain = self.chain(one, node)
            if chain and stars[other] and len(sides[other]) == len(chain[0]) in (2, 3):
                gates = set(self.gates(chain[0]))
                if gates == set(sides[other]) and len(gates) == len(chain[0]):
                    return name, sorted(gates), chain[1]
        return None

    def depends_on_itself(self, node):
        reached = set(self.found[node][1])
        grown = None
        while grown != reached:
            grown = set(reached)
            reached |= {gate for one in grown if one in self.found for gate in self.found[one][1]}
        return node in reached

    def has_fault(self, node):
        lifted = node in self.found
        inner = {one for kind, gates, passed in self.found.values() for one in passed}
        if self.at(node) and node not in self.supply.values() and not lifted and node not in inner:
            return True
        there = [node == self.supply["n"], node == self.supply["p"], lifted]
        there += [node == one for number, one in self.ports["input"]]
        there += [node == q for d, q, latch in self.boxes]
        if sum(there) >= 2:
            return True
        needed = node in self.gates(range(len(self.transistors)))
        needed = needed or node in [one for number, one in self.ports["output"]]
        needed = needed or node in [d for d, q, latch in self.boxes]
        return (sum(there) == 0 and needed) or (lifted and self.depends_on_itself(node))

    def result(self):
        """A pair of the lifted netlist and None, or of None and a list with the node."""
        latches = [latch for d, q, latch in self.boxes]
        missing = not (self.ports["ground"] and self.ports["power"] and self.ports["output"])
        if missing or None in [port[2] for port in self.port_list] or len(set(latches)) < len(latches):
            return None, [None]
        self.supply = {"n": self.ports["ground"][0][1], "p": self.ports["power"][0][1]}
        self.found = {node: self.lifted(node) for node in self.nodes}
        self.found = {node: found for node, found in self.found.items() if found}
        faults = [node for node in self.nodes if self.has_fault(node)]
        return (None, faults[:1]) if faults else (self.netlist(), None)

    def netlist(self):
        inputs, outputs = [[node for number, node in self.ports[kind]] for kind in ("input", "output")]
        needed = set(outputs) | {d for d, q, latch in self.boxes}
        needed |= {gate for kind, gates, passed in self.found.values() for gate in gates}
        rows = [(self.supply[kind], word, []) for kind, word in (("n", "zero"), ("p", "one"))
                if self.supply[kind] in needed]
        rows += [(q, "latch", [d]) for latch, d, q in sorted((latch, d, q) for d, q, latch in self.boxes)]
        rows += [(node, *self.found[node][:2]) for node in sorted(self.found)]
        named = tuple((f"n{node}", kind, tuple(f"n{one}" for one in given)) for node, kind, given in rows)
        return tuple(f"n{node}" for node in inputs), tuple(f"n{node}" for node in outputs), named


class LiftTest(unittest.TestCase):
    def readback(self, node_count, transistors, ports, boxes=()):
        readback = Readback(*layouts.layout(node_count, transistors, ports, boxes))
        self.assertEqual(readback.node_count(), node_count)
        return readback

    def check(self, node_count, transistors, ports, boxes=(), *, netlist):
        with self.subTest(transistors=transistors, ports=ports, boxes=boxes):
            readback = self.readback(node_count, transistors, SUPPLIES + ports, boxes)
            self.assertEqual(lift(readback), netlist)

    def check_not(self, node, node_count, transistors, ports, boxes=()):
        with self.subTest(transistors=transistors, ports=ports, boxes=boxes):
            readback = self.readback(node_count, transistors, ports, boxes)
            with self.assertRaises(NotLiftable) as caught:
                lift(readback)
            self.assertEqual(caught.exception.node, node)


class GatesTest(LiftTest):
    # The inputs 0 to 2 are the nodes 2 to 4, and the output is node 5.
    PORTS = [("input", 0, 2), ("input", 1, 3), ("input", 2, 4), ("output", 0, 5)]

    def check_gate(self, transistors, kind, sources):
        """Check the gate at node 5, also if its transistors stand in another order or turned."""
        nodes = 8
        gate = ("n5", kind, tuple(f"n{node}" for node in sources))
        netlist = (("n2", "n3", "n4"), ("n5",), (gate,))
        turned = [(one, given, right, left) for one, given, left, right in transistors]
        for same in (transistors, transistors[::-1], turned):
            self.check(nodes, same, self.PORTS, netlist=netlist)

    def check_no_gate(self, transistors, node=5):
        self.check_not(node, 8, transistors, SUPPLIES + self.PORTS)

    def test_not(self):
        self.check_gate(inverter(2, 5), "not", (2,))
        self.check_gate(inverter(4, 5), "not", (4,))

    def test_nand(self):
        self.check_gate(nand((2, 3), (6,), 5), "nand", (2, 3))
        self.check_gate(nand((4, 2), (6,), 5), "nand", (2, 4))
        self.check_gate(nand((2, 3, 4), (6, 7), 5), "nand", (2, 3, 4))
        self.check_gate(nand((4, 2, 3), (7, 6), 5), "nand", (2, 3, 4))

    def test_nor(self):
        self.check_gate(nor((2, 3), (6,), 5), "nor", (2, 3))
        self.check_gate(nor((4, 3), (7,), 5), "nor", (3, 4))
        self.check_gate(nor((2, 3, 4), (6, 7), 5), "nor", (2, 3, 4))
        self.check_gate(nor((3, 2, 4), (7, 6), 5), "nor", (2, 3, 4))

    def test_the_order_of_the_two_sides_may_differ(self):
        both = nand((2, 3, 4), (6, 7), 5)
        self.check_gate(both[:3] + [both[4], both[5], both[3]], "nand", (2, 3, 4))

    def test_a_not_whose_sides_have_different_gates(self):
        self.check_no_gate([("n", 2, 0, 5), ("p", 3, 5, 1)])

    def test_a_not_with_one_side(self):
        self.check_no_gate(inverter(2, 5)[:1])
        self.check_no_gate(inverter(2, 5)[1:])

    def test_turned_supplies(self):
        self.check_no_gate([("p", 2, 0, 5), ("n", 2, 5, 1)])
        self.check_no_gate([("n", 2, 0, 5), ("p", 2, 5, 0)])
        self.check_no_gate([("n", 2, 1, 5), ("p", 2, 5, 1)])

    def test_sides_with_different_gates(self):
        chain, star = nand((2, 3), (6,), 5)[:2], nand((2, 3), (6,), 5)[2:]
        self.check_no_gate(chain + [star[0], ("p", 4, 5, 1)])
        self.check_no_gate(chain + star[:1])
        self.check_no_gate(chain + star + [("p", 4, 5, 1)])
        self.check_no_gate(chain + star + star[:1])
        self.check_no_gate([("n", 2, 0, 6), ("n", 4, 6, 5)] + star)
        chain, star = nor((2, 3), (6,), 5)[2:], nor((2, 3), (6,), 5)[:2]
        self.check_no_gate(chain + [star[0], ("n", 4, 5, 0)])
        self.check_no_gate(chain + star[1:])

    def test_equal_gates_on_one_side(self):
        # A star and a chain with equal gates are no gate, also if they are the same on both sides.
        self.check_no_gate(nand((2, 2), (6,), 5))
        self.check_no_gate(nor((3, 3), (6,), 5))
        self.check_no_gate(nand((2, 3, 2), (6, 7), 5))
        self.check_no_gate(nand((2, 3, 2), (6, 7), 5)[:3] + nand((2, 3, 3), (6, 7), 5)[3:])

    def test_two_stars_and_two_chains(self):
        self.check_no_gate(inverter(2, 5) + inverter(3, 5))
        self.check_no_gate(inverter(2, 5) + inverter(2, 5))
        self.check_no_gate(nand((2, 3), (6,), 5)[:2] + nor((2, 3), (7,), 5)[2:])
        # A chain of one and a star of one are a not.
        self.check_gate(inverter(3, 5)[::-1], "not", (3,))

    def test_chains_of_four(self):
        ports = self.PORTS + [("input", 3, 8)]
        for gate in (nand((2, 3, 4, 8), (6, 7, 9), 5), nor((2, 3, 4, 8), (6, 7, 9), 5)):
            self.check_not(5, 10, gate, SUPPLIES + ports)

    def test_a_loose_and_a_looping_transistor(self):
        self.check_no_gate(inverter(2, 5) + [("n", 3, 5, 5)])
        self.check_no_gate(inverter(2, 5) + [("n", 3, 5, 6)])
        self.check_no_gate(inverter(2, 5) + [("p", 3, 5, 0)])
        self.check_no_gate([("n", 2, 5, 5), ("p", 2, 5, 1)])
        # One between other nodes than the gate's: at its least end, if that is no supply.
        self.check_no_gate(inverter(2, 5) + [("n", 3, 6, 7)], node=6)
        self.check_no_gate(inverter(2, 5) + [("n", 3, 0, 7)], node=7)
        self.check_no_gate(inverter(2, 5) + [("n", 3, 2, 7)], node=2)

    def test_transistors_between_supplies(self):
        for ends in ((0, 1), (0, 0), (1, 1), (1, 0)):
            for kind in "np":
                self.check_gate(inverter(2, 5) + [(kind, 3, *ends)], "not", (2,))

    def test_ground_and_power_are_no_gates(self):
        # Their sides are like those of a not, but they are the ends of the sides themselves.
        ports = [("input", 0, 2), ("output", 0, 2)]
        for ends in (((0, 0), (0, 1)), ((0, 1), (1, 1))):
            transistors = [("n", 2, *ends[0]), ("p", 2, *ends[1])]
            self.check(3, transistors, ports, netlist=(("n2",), ("n2",), ()))


class InnerNodesTest(LiftTest):
    PORTS = [("input", 0, 2), ("input", 1, 3), ("output", 0, 4)]

    def check_inner(self, more=(), ports=(), boxes=(), nodes=7):
        """Check that nand and nor are not lifted if their inner node 5 has something else, too."""
        for gate in (nand((2, 3), (5,), 4), nor((2, 3), (5,), 4)):
            self.check_not(4, nodes, gate + list(more), SUPPLIES + self.PORTS + list(ports), boxes)

    def test_ports(self):
        self.check_inner(ports=[("output", 1, 5)])
        self.check_inner(ports=[("input", 2, 5)])

    def test_gates(self):
        self.check_inner(more=inverter(5, 6), ports=[("output", 1, 6)])
        self.check_inner(more=[("n", 5, 0, 0)])

    def test_boxes(self):
        for latch in (None, 0):
            self.check_inner(boxes=[(5, 6, latch)])
            self.check_inner(boxes=[(6, 5, latch)])

    def test_more_transistors(self):
        for kind in "np":
            self.check_inner(more=[(kind, 2, 5, 0)])
            self.check_inner(more=[(kind, 2, 5, 1)])
            self.check_inner(more=[(kind, 2, 5, 5)])
            self.check_inner(more=[(kind, 2, 5, 6)])

    def test_transistors_of_both_kinds_in_a_chain(self):
        mixed = [("p", 2, 0, 5), ("n", 3, 5, 4)] + nand((2, 3), (5,), 4)[2:]
        self.check_not(4, 6, mixed, SUPPLIES + self.PORTS)

    def test_chains_that_meet(self):
        # Two nands over one node, which is inner for neither of them.
        self.check_not(4, 8, nand((2, 3), (5,), 4) + nand((2, 3), (5,), 6),
                       SUPPLIES + self.PORTS + [("output", 1, 6)])

    def test_a_chain_that_does_not_end_at_ground(self):
        # It ends at power, at a node beside, at an input, and at the output of another gate.
        star = nand((2, 3), (5,), 4)[2:]
        for end, node in ((1, 4), (6, 4), (2, 2)):
            self.check_not(node, 7, [("n", 2, end, 5), ("n", 3, 5, 4)] + star, SUPPLIES + self.PORTS)
        self.check_not(4, 7, [("n", 2, 6, 5), ("n", 3, 5, 4)] + star + inverter(2, 6), SUPPLIES + self.PORTS)

    def test_inner_nodes_of_what_is_no_gate(self):
        # The gates differ, so that node 3, which lies in the chain, is reported.
        ports = [("input", 0, 4), ("input", 1, 5), ("output", 0, 6)]
        gate = nand((4, 5), (3,), 6)
        self.check(7, gate, ports + [("output", 1, 4)],
                   netlist=(("n4", "n5"), ("n6", "n4"), (("n6", "nand", ("n4", "n5")),)))
        self.check_not(3, 7, gate[:3] + [("p", 4, 6, 1)], SUPPLIES + ports)


class PortsTest(LiftTest):
    GATES = inverter(2, 3)
    PORTS = SUPPLIES + [("input", 0, 2), ("output", 0, 3)]

    def test_missing_ports(self):
        for kind in ("ground", "power", "output"):
            ports = [port for port in self.PORTS if port[0] != kind]
            self.check_not(None, 4, self.GATES, ports)
            self.check_not(None, 4, self.GATES, ports + [("input", 1, 2)])
        self.check_not(None, 4, self.GATES, [])
        # What is wrong with a node is told only after that.
        self.check_not(None, 6, self.GATES + [("n", 2, 4, 5)], self.PORTS[:-1])

    def test_no_inputs(self):
        self.check(3, [], [("output", 0, 0), ("output", 1, 1)],
                   netlist=((), ("n0", "n1"), (("n0", "zero", ()), ("n1", "one", ()))))

    def test_ports_without_a_node(self):
        for kind in ("ground", "power", "output", "input"):
            ports = [port for port in self.PORTS if port[0] != kind]
            self.check_not(None, 4, self.GATES, ports + [(kind, 0, None)])
        for kind in ("output", "input"):
            self.check_not(None, 4, self.GATES, self.PORTS + [(kind, 1, None)])

    def test_two_boxes_that_hold_one_latch(self):
        sheet = layouts.Layout(6)
        for transistor in self.GATES:
            sheet.transistor(*transistor)
        for port in self.PORTS:
            sheet.port(*port)
        sheet.twin_boxes((3, 4), (3, 5), 0)
        with self.assertRaises(NotLiftable) as caught:
            lift(Readback(*sheet.masks()))
        self.assertIsNone(caught.exception.node)

    def test_two_things_that_drive_a_node(self):
        self.check_not(2, 4, self.GATES, self.PORTS + [("input", 1, 2)])
        self.check_not(3, 4, self.GATES, self.PORTS + [("input", 1, 3)])
        self.check_not(0, 4, self.GATES, self.PORTS + [("input", 1, 0)])
        self.check_not(1, 4, self.GATES, self.PORTS + [("input", 1, 1)])
        self.check_not(0, 4, [], [("ground", 0, 0), ("power", 0, 0), ("output", 0, 0)])
        for node in range(4):
            self.check_not(node, 5, self.GATES, self.PORTS, [(2, node, 0)])
        self.check_not(4, 5, self.GATES, self.PORTS, [(2, 4, 0), (3, 4, 1)])

    def test_boxes_without_a_latch_drive_nothing(self):
        netlist = (("n2",), ("n3",), (("n3", "not", ("n2",)),))
        for d, q in ((2, 4), (4, 4), (2, 3), (4, 2), (3, 0), (1, 1)):
            self.check(5, self.GATES, self.PORTS[2:], [(d, q, None)], netlist=netlist)
        self.check(6, self.GATES, self.PORTS[2:], [(2, 4, None), (2, 5, None)], netlist=netlist)
        self.check_not(4, 5, self.GATES, self.PORTS + [("output", 1, 4)], [(2, 4, None)])

    def test_needed_nodes_that_nothing_drives(self):
        # A gate of a transistor, an output, and d of a box that holds a latch.
        self.check_not(2, 4, self.GATES, SUPPLIES + [("output", 0, 3)])
        self.check_not(4, 5, self.GATES + [("n", 4, 0, 1)], self.PORTS)
        self.check_not(4, 5, self.GATES, self.PORTS + [("output", 1, 4)])
        self.check_not(4, 6, self.GATES, self.PORTS, [(4, 5, 0)])
        netlist = (("n2",), ("n3",), (("n5", "latch", ("n2",)), ("n3", "not", ("n2",))))
        self.check(6, self.GATES, self.PORTS[2:], [(2, 5, 0)], netlist=netlist)

    def test_the_least_node_is_reported(self):
        both = inverter(3, 4) + inverter(6, 7)
        ports = SUPPLIES + [("output", 0, 4), ("output", 1, 7)]
        self.check_not(3, 8, both, ports)
        self.check_not(6, 8, both, ports + [("input", 0, 3)])
        self.check_not(5, 8, both, ports + [("input", 0, 3), ("output", 2, 5)])
        self.check_not(2, 8, both + [("n", 3, 0, 2)], ports)

    def test_inputs_and_outputs_in_the_order_of_their_numbers(self):
        ports = [("output", 9, 3), ("input", 8, 2), ("output", 0, 2), ("input", 3, 4), ("output", 4, 3)]
        self.check(5, self.GATES, ports,
                   netlist=(("n4", "n2"), ("n2", "n3", "n3"), (("n3", "not", ("n2",)),)))


class RingsTest(LiftTest):
    def test_rings_of_gates(self):
        ports = SUPPLIES + [("output", 0, 2)]
        self.check_not(2, 3, inverter(2, 2), ports)
        self.check_not(2, 4, inverter(2, 3) + inverter(3, 2), ports)
        self.check_not(2, 5, inverter(4, 2) + inverter(3, 4) + inverter(2, 3), ports)

    def test_the_least_gate_of_a_ring(self):
        # Node 2 depends on the ring of 3 and 4, and is not in it itself.
        gates = inverter(3, 2) + inverter(3, 4) + inverter(4, 3)
        self.check_not(3, 5, gates, SUPPLIES + [("output", 0, 2)])
        cross = nand((2, 5), (6,), 4) + nand((3, 4), (7,), 5)
        ports = SUPPLIES + [("input", 0, 2), ("input", 1, 3), ("output", 0, 5)]
        self.check_not(4, 8, cross, ports)

    def test_a_latch_in_a_ring(self):
        self.check(4, inverter(2, 3), [("output", 0, 2)], [(3, 2, 6)],
                   netlist=((), ("n2",), (("n2", "latch", ("n3",)), ("n3", "not", ("n2",)))))
        self.check(3, [], [("output", 0, 2)], [(2, 2, 1)],
                   netlist=((), ("n2",), (("n2", "latch", ("n2",)),)))


class NetlistTest(LiftTest):
    def test_zero_and_one_only_where_they_are_needed(self):
        ports = [("input", 0, 2), ("output", 0, 3)]
        gate = ("n3", "nand", ("n2", "n4"))
        for supply, word in ((0, "zero"), (1, "one")):
            constant = (f"n{supply}", word, ())
            # A gate of a lifted gate, an output, or d of a box that holds a latch.
            self.check(5, inverter(supply, 3), ports, netlist=(
                ("n2",), ("n3",), (constant, ("n3", "not", (f"n{supply}",)))))
            self.check(6, nand((2, 4), (5,), 3), ports + [("input", 1, 4), ("output", 1, supply)],
                       netlist=(("n2", "n4"), ("n3", f"n{supply}"), (constant, gate)))
            self.check(5, inverter(2, 3), ports, [(supply, 4, 0)], netlist=(
                ("n2",), ("n3",), (constant, ("n4", "latch", (f"n{supply}",)), ("n3", "not", ("n2",)))))
            # A gate of a transistor that belongs to no lifted gate, or d of another box.
            self.check(4, inverter(2, 3) + [("n", supply, 0, 1)], ports,
                       netlist=(("n2",), ("n3",), (("n3", "not", ("n2",)),)))
            self.check(5, inverter(2, 3), ports, [(supply, 4, None)],
                       netlist=(("n2",), ("n3",), (("n3", "not", ("n2",)),)))

    def test_the_order_of_the_gates(self):
        transistors = inverter(2, 6) + inverter(6, 4) + inverter(3, 5) + nand((0, 1), (9,), 8)
        ports = [("input", 0, 2), ("output", 0, 4)]
        boxes = [(4, 7, 5), (5, 3, 2), (8, 10, None)]
        self.check(11, transistors, ports, boxes, netlist=(("n2",), ("n4",), (
            ("n0", "zero", ()), ("n1", "one", ()), ("n3", "latch", ("n5",)), ("n7", "latch", ("n4",)),
            ("n4", "not", ("n6",)), ("n5", "not", ("n3",)), ("n6", "not", ("n2",)),
            ("n8", "nand", ("n0", "n1")))))

    def test_more_than_a_text_may_have(self):
        # 45 nots, 8 inputs, 7 outputs and 6 latches.
        transistors = [t for k in range(45) for t in inverter(2 + k, 3 + k)]
        ports = [("input", 0, 2)] + [("input", k, 47 + k) for k in range(1, 8)]
        ports += [("output", k, 41 + k) for k in range(7)]
        boxes = [(10 + k, 60 + k, k) for k in range(6)]
        inputs, outputs, gates = lift(self.readback(70, transistors, SUPPLIES + ports, boxes))
        self.assertEqual(len(inputs), 8)
        self.assertEqual(outputs, tuple(f"n{41 + k}" for k in range(7)))
        self.assertEqual(gates[:6], tuple((f"n{60 + k}", "latch", (f"n{10 + k}",)) for k in range(6)))
        self.assertEqual(gates[6:], tuple((f"n{3 + k}", "not", (f"n{2 + k}",)) for k in range(45)))

    def test_results_are_equal(self):
        readback = self.readback(4, inverter(2, 3), SUPPLIES + [("input", 0, 2), ("output", 0, 3)])
        self.assertEqual(lift(readback), lift(readback))
        self.assertEqual(readback.transistors(), inverter(2, 3))


def arbitrary_network(seed):
    """Nodes, transistors, ports and boxes of gates over inputs and latches, in most cases changed."""
    numbers = samples.Numbers(seed)
    known = [0, 1, 2, 3, 4]
    ports = SUPPLIES + [("input", 1, 2), ("input", 0, 3)]
    boxes, transistors, count = [], [], 5
    for _ in range(1 + numbers.below(4)):
        size = 1 + numbers.below(3)
        gates = [known.pop(numbers.below(len(known))) for _ in range(size)]
        known += gates
        inner = list(range(count, count + size - 1))
        output = count + size - 1
        transistors += (nand, nor)[numbers.below(2)](gates, inner, output)
        known.append(output)
        count = output + 1
    boxes.append((known[numbers.below(len(known))], 4, numbers.below(3)))
    ports += [("output", k, known[numbers.below(len(known))]) for k in range(1 + numbers.below(3))]
    for _ in range(numbers.below(3)):
        change_network(numbers, count, transistors, ports, boxes)
    return count, transistors, ports, boxes


def change_network(numbers, count, transistors, ports, boxes):
    """Change a transistor, a port or a box, leave it out, or add one."""
    kind = numbers.below(6)
    node = numbers.below(count)
    if kind == 0 and transistors:
        transistors.pop(numbers.below(len(transistors)))
    elif kind == 1 and transistors:
        at = numbers.below(len(transistors))
        changed = list(transistors[at])
        changed[1 + numbers.below(3)] = node
        transistors[at] = tuple(changed)
    elif kind == 2 and transistors:
        transistors.append(transistors[numbers.below(len(transistors))])
    elif kind == 3:
        at = numbers.below(len(ports))
        ports[at] = (*ports[at][:2], None if numbers.below(9) == 0 else node)
    elif kind == 4:
        ports.append((("input", "output")[numbers.below(2)], 3 + len(ports), node))
    else:
        boxes.append((node, numbers.below(count), (None, 4 + len(boxes))[numbers.below(2)]))


class WholeTest(LiftTest):
    def test_arbitrary_networks(self):
        lifted = faulty = 0
        for seed in range(400):
            network = arbitrary_network(seed)
            netlist, node = LiftByWords(*network).result()
            readback = self.readback(*network)
            with self.subTest(network=network):
                if node is None:
                    lifted += 1
                    self.assertEqual(lift(readback), netlist)
                    self.check_meaning(netlist, *layouts.layout(*network))
                else:
                    faulty += 1
                    self.check_not(node[0], *network)
        self.assertGreater(lifted, 100)
        self.assertGreater(faulty, 100)

    def check_meaning(self, netlist, rectangles, labels):
        """Check that a lifted netlist has the values that the machine of the masks has."""
        machine = Machine(rectangles, labels)
        for inputs, states in samples.all_cases(netlist)[:16]:
            machine.load(states)
            self.assertEqual(machine.clock(inputs), output_values(netlist, inputs, states))
            self.assertEqual(machine.states(), next_states(netlist, inputs, states))

    def has_equal_inputs(self, circuit):
        """Tell if a cell has two inputs on one node: both are ground, or both are power."""
        ties = {output: kind for kind, sources, output in circuit[1] if kind in ("tie0", "tie1")}
        inputs = [[ties.get(net, net) for net in sources] for kind, sources, output in circuit[1]]
        return any(len(set(given)) < len(given) for given in inputs)

    def check_circuit(self, circuit, placement):
        if self.has_equal_inputs(circuit):
            with self.assertRaises(NotLiftable):
                lift(Readback(*layouts.drawn(circuit, placement)))
            return
        netlist = lift(Readback(*layouts.drawn(circuit, placement)))
        self.assertEqual(len(netlist[0]), circuit[0])
        self.assertEqual(len(netlist[1]), len(circuit[2]))
        order = sorted(range(len(circuit[3])), key=lambda k: circuit[3][k])
        for number in range(12):
            numbers = samples.Numbers(number)
            inputs = [numbers.below(2) for _ in range(circuit[0])]
            held = [numbers.below(2) for _ in circuit[3]]
            states = [held[k] for k in order]
            self.assertEqual(output_values(netlist, inputs, states), circuit_outputs(circuit, inputs, held))
            after = circuit_next(circuit, inputs, held)
            self.assertEqual(next_states(netlist, inputs, states), [after[k] for k in order])
        if list(circuit[3]) == sorted(circuit[3]):
            self.assertIsNone(find_difference(netlist, list_cells(circuit)))

    def test_masks_of_circuits(self):
        for circuit, placement in samples.some_placements()[::2]:
            with self.subTest(circuit=circuit, placement=placement):
                self.check_circuit(circuit, placement)

    def test_forty_cells(self):
        for seed in range(3):
            circuit = samples.arbitrary_circuit(seed, 6, 40, 4)
            self.check_circuit(circuit, samples.arbitrary_placement(seed, circuit, 5))


if __name__ == "__main__":
    unittest.main()
