"""The whole program: from texts to masks, and back from the masks to netlists that mean the same."""

import unittest

import layouts
import samples
from gatesread.arranging import arrange
from gatesread.channels import route, track_count
from gatesread.checking import find_breaches, is_clean
from gatesread.chip import compile_chip, compile_placed, machine_of
from gatesread.clocked import Clocked
from gatesread.comparing import agrees, open_nets, pin_places, short_nets
from gatesread.equivalence import find_difference
from gatesread.errors import BrokenMasks, NotLiftable
from gatesread.improving import improve
from gatesread.lifting import lift
from gatesread.listing import list_cells
from gatesread.mapping import map_cells
from gatesread.masks import draw_masks
from gatesread.placing import first_placement
from gatesread.readback import Readback
from gatesread.reader import read_netlist
from gatesread.sheet import read_sheet, write_sheet
from gatesread.wireshapes import channel_rectangles
from gatesread.writer import write_netlist

TEXTS = (
    write_netlist(samples.FULL_ADDER),
    write_netlist(samples.COUNTER),
    write_netlist(samples.SWAP),
    "in a; out a;",
    "in a b; out b a b a b a;",
    "out x y; x = zero; y = one;",
    "in a; x = latch a; out x x a;",
    "l = latch n; n = not l; out l;",
    "in a b c; x = mux a b c; y = nor a b c; z = nand c b a; out x y z; l = latch x;",
    # A zero that is an input of a gate, an output, and what a latch gets.
    "in a; z = zero; k = latch z; x = xor k a; o = one; m = latch o; y = and m x; out y z;",
    "in a b; p = latch q; q = latch r; r = latch p; x = mux p a b; out x q;",
)


def texts():
    return list(TEXTS) + [write_netlist(samples.arbitrary_netlist(seed)) for seed in range(30)]


class MeaningTest(unittest.TestCase):
    def check_machine(self, netlist, sheet, latches):
        """Check that the machine of a sheet clocks as a netlist does."""
        machine, clocked = machine_of(sheet), Clocked(netlist)
        self.assertEqual(machine.input_numbers(), list(range(len(netlist[0]))))
        self.assertEqual(machine.output_numbers(), list(range(len(netlist[1]))))
        self.assertEqual(machine.latch_numbers(), list(latches))
        for inputs in (samples.bit_lists(len(netlist[0])) * 3)[:20]:
            self.assertEqual(machine.clock(inputs), clocked.clock(inputs))
            states = clocked.states()
            self.assertEqual(machine.states(), [states[latch] for latch in latches])

    def check_masks(self, netlist, sheet, places):
        rectangles, labels = read_sheet(sheet)
        self.assertEqual(write_sheet(rectangles, labels), sheet)
        self.assertEqual(find_breaches(rectangles), [])
        readback = Readback(rectangles, labels)
        self.assertEqual(open_nets(readback, places), [])
        self.assertEqual(short_nets(readback, places), [])
        for inputs, states in samples.all_cases(netlist):
            self.assertIs(agrees(netlist, readback, inputs, states), True)
        return readback

    def check_lifted(self, netlist, circuit, readback):
        lifted = lift(readback)
        listing = list_cells(circuit)
        self.assertIsNone(find_difference(lifted, listing))
        if len(circuit[3]) == samples.latch_count(netlist):
            self.assertIsNone(find_difference(lifted, netlist))
        # It has as many gates as the circuit has cells.
        self.assertEqual(sorted(gate[1] for gate in lifted[2]), sorted(gate[1] for gate in listing[2]))

    def check(self, text, row_count):
        netlist = read_netlist(text)
        circuit = map_cells(netlist)
        placement = improve(circuit, first_placement(circuit, row_count))
        arrangement = arrange(circuit, placement)
        places = pin_places(circuit, arrangement, route(circuit, arrangement))
        sheet = compile_chip(text, row_count)
        self.assertEqual(compile_chip(text, row_count), sheet)
        self.assertEqual(compile_placed(text, placement), sheet)
        self.check_machine(netlist, sheet, circuit[3])
        readback = self.check_masks(netlist, sheet, places)
        self.check_lifted(netlist, circuit, readback)

    def test_texts(self):
        for k, text in enumerate(texts()):
            row_count = k % 6 + 1
            with self.subTest(text=text, row_count=row_count):
                self.check(text, row_count)

    def test_the_listing_compiled_again(self):
        for k, text in enumerate(texts()):
            with self.subTest(text=text):
                netlist = read_netlist(text)
                circuit = map_cells(netlist)
                listing = list_cells(circuit)
                again = compile_chip(write_netlist(listing), k % 6 + 1)
                self.check_machine(listing, again, map_cells(listing)[3])
                self.assertIsNone(find_difference(lift(Readback(*read_sheet(again))),
                                                  list_cells(map_cells(listing))))
                if len(circuit[3]) == samples.latch_count(netlist):
                    self.assertIsNone(find_difference(netlist, listing))

    def test_a_large_text(self):
        names = [f"x{k}" for k in range(9)]
        gates = [(name, "xor", ("abcdef"[k % 6], ("g", *names)[k])) for k, name in enumerate(names)]
        latches = (("g", "latch", ("x8",)), ("h", "latch", ("g",)))
        netlist = (tuple("abcdef"), ("x8", "h", "x3"), latches + tuple(gates))
        self.assertGreater(len(map_cells(netlist)[1]), 36)
        sheet = compile_chip(write_netlist(netlist), 4)
        self.check_machine(netlist, sheet, (0, 1))
        self.assertIsNone(find_difference(lift(Readback(*read_sheet(sheet))), netlist))


class ChangedMasksTest(unittest.TestCase):
    def masks(self, text, row_count):
        """The circuit of a text, its channels, the places of its pins, and its masks."""
        circuit = map_cells(read_netlist(text))
        arrangement = arrange(circuit, first_placement(circuit, row_count))
        channels = route(circuit, arrangement)
        masks = draw_masks(circuit, arrangement, channels)
        return circuit, channels, pin_places(circuit, arrangement, channels), masks

    def test_a_wire_that_is_taken_away(self):
        for text, row_count in ((TEXTS[0], 2), (TEXTS[1], 1), (TEXTS[8], 3)):
            circuit, channels, places, (rectangles, labels) = self.masks(text, row_count)
            netlist = read_netlist(text)
            bottom = 4
            for channel in channels:
                for wire in channel:
                    taken = self.wire_shapes(channel, wire, bottom)
                    rest = [rectangle for rectangle in rectangles if rectangle not in taken]
                    self.assertEqual(len(rest), len(rectangles) - len(taken))
                    self.assertTrue(is_clean(rest))
                    readback = Readback(rest, labels)
                    self.assertEqual(open_nets(readback, places), [wire[0]])
                    self.assertEqual(short_nets(readback, places), [])
                    self.check_told(netlist, rest, labels)
                bottom += 7 * track_count(channel) + 3 + 52

    def wire_shapes(self, channel, wire, bottom):
        """The rectangles of a wire of a channel."""
        shapes = channel_rectangles(channel, bottom)
        start = sum(1 + 2 * len(other[4]) for other in channel[:channel.index(wire)])
        return shapes[start:start + 1 + 2 * len(wire[4])]

    def check_told(self, netlist, rectangles, labels):
        """Check that masks with a fault do not agree with a netlist in all cases."""
        readback = Readback(rectangles, labels)
        agreed = [agrees(netlist, readback, *case) for case in samples.all_cases(netlist)]
        self.assertFalse(all(agreed))

    def test_a_bridge_that_is_added(self):
        for text, one, other in ((TEXTS[0], 0, 1), (TEXTS[0], 1, 2), (TEXTS[8], 0, 1)):
            circuit, channels, places, (rectangles, labels) = self.masks(text, 2)
            left, right = places[one][0][0], places[other][0][0]
            bridged = rectangles + [("metal2", left, 0, right, 4)]
            readback = Readback(bridged, labels)
            self.assertEqual(open_nets(readback, places), [])
            self.assertEqual(short_nets(readback, places), [one, other])
            node = readback.node_at("metal2", left, 2)
            with self.assertRaises(NotLiftable) as caught:
                lift(readback)
            self.assertEqual(caught.exception.node, node)
            self.check_told(read_netlist(text), bridged, labels)

    def test_a_bridge_between_a_wire_and_a_supply(self):
        # A metal2 from the ground trunk to the first input pad, below all channels.
        circuit, channels, places, (rectangles, labels) = self.masks(TEXTS[0], 1)
        bridged = rectangles + [("metal2", 4, 0, places[0][0][0], 4)]
        readback = Readback(bridged, labels)
        self.assertEqual((open_nets(readback, places), short_nets(readback, places)), ([], []))
        self.assertEqual(readback.ports()[0][2], readback.ports()[2][2])
        with self.assertRaises(NotLiftable) as caught:
            lift(readback)
        self.assertEqual(caught.exception.node, readback.ports()[0][2])
        self.check_told(read_netlist(TEXTS[0]), bridged, labels)

    def test_each_rectangle_taken_away(self):
        # Without any one rectangle the masks are broken, a net is open, or they mean something else.
        netlist = read_netlist("in a b; x = nor a b; out x; l = latch x; out l;")
        circuit, channels, places, (rectangles, labels) = self.masks(write_netlist(netlist), 1)
        told = {"broken": 0, "open": 0, "wrong": 0}
        for k in range(len(rectangles)):
            rest = rectangles[:k] + rectangles[k + 1:]
            try:
                readback = Readback(rest, labels)
            except BrokenMasks:
                told["broken"] += 1
                continue
            if open_nets(readback, places):
                told["open"] += 1
            elif not all(agrees(netlist, readback, *case) for case in samples.all_cases(netlist)):
                told["wrong"] += 1
            else:
                self.check_not_needed(rest, labels, netlist)
        self.assertTrue(all(told.values()), told)

    def check_not_needed(self, rectangles, labels, netlist):
        """Check that masks without a rectangle mean the same; it was one beside or within another."""
        self.assertIsNone(find_difference(lift(Readback(rectangles, labels)), netlist))

    def test_a_label_taken_away(self):
        netlist = samples.COUNTER
        rectangles, labels = layouts.drawn(map_cells(netlist))
        for k, label in enumerate(labels):
            with self.subTest(label=label):
                rest = labels[:k] + labels[k + 1:]
                self.check_told(netlist, rectangles, rest)
                if label[0] in ("ground", "power"):
                    with self.assertRaises(NotLiftable) as caught:
                        lift(Readback(rectangles, rest))
                    self.assertIsNone(caught.exception.node)


if __name__ == "__main__":
    unittest.main()
