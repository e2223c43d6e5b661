"""Points 54 and 55: comparing masks with their circuit and their netlist."""

import unittest

import layouts
import samples
from gatesread.arranging import arrange
from gatesread.channels import route, track_count
from gatesread.comparing import agrees, open_nets, pin_places, short_nets
from gatesread.errors import InvalidValues, TooLarge
from gatesread.gates import next_states, output_values
from gatesread.mapping import map_cells
from gatesread.readback import Readback
from gatesread.reader import read_netlist
from test_levels import inverter

SUPPLIES = [("ground", 0, 0), ("power", 0, 1)]
ONE_LATCH = (1, (("latch", (0,), 1),), (1,), (2,))


def places_of(circuit, placement):
    arrangement = arrange(circuit, placement)
    return pin_places(circuit, arrangement, route(circuit, arrangement))


def places_by_words(circuit, arrangement, channels):
    """Point 54, with the heights of point 41 and the columns of point 24."""
    bottoms, y = [], 4
    for channel in channels:
        y += 7 * track_count(channel) + 3
        bottoms.append(y)
        y += 52
    heights = [2] + [bottom + 26 for bottom in bottoms[:-1]] + [bottoms[-1] + 2]
    places = [[] for _ in range(circuit[0] + len(circuit[1]))]
    for height, things in zip(heights, arrangement):
        for kind, number, column in things:
            nets = [number]
            if kind == "cell":
                nets = circuit[1][number][1] + (circuit[1][number][2],)
            if kind == "output":
                nets = [circuit[2][number]]
            for k, net in enumerate(nets):
                places[net].append((8 * (column + 1 + 2 * k) + 20, height))
    return places


class PinPlacesTest(unittest.TestCase):
    def test_one_latch(self):
        places = [[(28, 2), (36, 40)], [(52, 40), (28, 78)]]
        self.assertEqual(places_of(ONE_LATCH, [[0]]), places)

    def test_feeds_and_outputs_that_are_inputs(self):
        # Net 0 has a feed in row 0; channels 0 and 2 have two tracks, channel 1 has one.
        self.assertEqual(places_of(samples.NO_CELLS, [[]]),
                         [[(28, 2), (36, 40), (44, 85)], [(44, 2), (52, 40), (28, 85), (60, 85)]])

    def test_no_inputs(self):
        circuit = (0, (("tie1", (), 0),), (0, 0), ())
        # The tie is in row 1, above the empty row 0 and two channels that are 3 high.
        self.assertEqual(places_of(circuit, [[], [0]]), [[(28, 88), (36, 126), (52, 126)]])

    def test_all_placements(self):
        for circuit, placement in samples.some_placements():
            with self.subTest(circuit=circuit, placement=placement):
                arrangement = arrange(circuit, placement)
                channels = route(circuit, arrangement)
                places = pin_places(circuit, arrangement, channels)
                self.assertEqual(places, places_by_words(circuit, arrangement, channels))

    def test_arguments_and_results_are_not_kept(self):
        arrangement = arrange(ONE_LATCH, [[0]])
        channels = route(ONE_LATCH, arrangement)
        places = pin_places(ONE_LATCH, arrangement, channels)
        places[0].clear()
        places.clear()
        self.assertEqual(arrangement, arrange(ONE_LATCH, [[0]]))
        self.assertEqual(channels, route(ONE_LATCH, arrangement))
        self.assertEqual(pin_places(ONE_LATCH, arrangement, channels)[0], [(28, 2), (36, 40)])


class OpenAndShortTest(unittest.TestCase):
    # Nodes 0 to 3 are squares of metal2 at x = 0, 10, 20 and 30.
    SQUARES = [("metal2", 10 * k, 0, 10 * k + 4, 4) for k in range(4)]

    def check(self, nodes, opened, shorted):
        """Check nets whose pins are on the squares with the given numbers, None beside all."""
        with self.subTest(nodes=nodes):
            places = [[(50 if k is None else 10 * k + 2, 2) for k in net] for net in nodes]
            readback = Readback(self.SQUARES, [])
            self.assertEqual(open_nets(readback, places), opened)
            self.assertEqual(short_nets(readback, places), shorted)

    def test_whole_nets(self):
        self.check([], [], [])
        self.check([[2]], [], [])
        self.check([[0, 0], [1, 1, 1], [3]], [], [])

    def test_open_nets(self):
        self.check([[0, 1]], [0], [])
        self.check([[0], [1, 2], [3, 3]], [1], [])
        self.check([[0, 0, 1], [2], [3, 2, 3]], [0, 2], [])
        self.check([[None]], [0], [])
        self.check([[None, None], [1], [1, None], [None, 2]], [0, 2, 3], [])

    def test_short_nets(self):
        self.check([[0], [0]], [], [0, 1])
        self.check([[2, 2], [1], [2], [3], [2]], [], [0, 2, 4])
        self.check([[0], [1], [1], [0, 0], [2]], [], [0, 1, 2, 3])

    def test_open_nets_are_not_short(self):
        self.check([[0, 1], [0], [1]], [0], [])
        self.check([[0, 1], [0, 1]], [0, 1], [])
        self.check([[0, None], [0], [2, 2]], [0], [])
        self.check([[0, 1], [0], [1], [0]], [0], [1, 3])
        self.check([[None], [None, None]], [0, 1], [])

    def test_edges_of_the_metal(self):
        readback = Readback(self.SQUARES, [])
        self.assertEqual(open_nets(readback, [[(0, 0), (4, 4)], [(10, 2), (15, 2)]]), [1])
        self.assertEqual(short_nets(readback, [[(0, 0)], [(4, 4)], [(10, 2)]]), [0, 1])

    def test_only_metal2_counts(self):
        readback = Readback([("metal1", 0, 0, 9, 9), ("poly", 0, 0, 9, 9)], [])
        self.assertEqual(open_nets(readback, [[(2, 2)], [(3, 3), (4, 4)]]), [0, 1])

    def test_masks_of_circuits(self):
        for circuit, placement in samples.some_placements():
            readback = Readback(*layouts.drawn(circuit, placement))
            places = places_of(circuit, placement)
            # The output of a tie is ground or power itself; several ties of a kind are one node.
            ties = {kind: [output for other, sources, output in circuit[1] if other == kind]
                    for kind in ("tie0", "tie1")}
            shorted = [net for nets in ties.values() if len(nets) > 1 for net in nets]
            self.assertEqual(open_nets(readback, places), [])
            self.assertEqual(short_nets(readback, places), sorted(shorted))

    def test_arguments_and_results_are_not_kept(self):
        readback = Readback(self.SQUARES, [])
        places = [[(2, 2), (12, 2)], [(2, 2)], [(3, 3)]]
        copy = [list(net) for net in places]
        open_nets(readback, places).clear()
        short_nets(readback, places).clear()
        self.assertEqual(places, copy)
        self.assertEqual((open_nets(readback, places), short_nets(readback, places)), ([0], [1, 2]))


def bits_of(netlist):
    return len(netlist[0]), samples.latch_count(netlist)


# Inverters of a and of the latch, whose input is the first one.
SMALL = read_netlist("in a; out y z; y = not a; l = latch y; z = not l;")
SMALL_GATES = inverter(2, 3) + inverter(4, 5)
SMALL_PORTS = SUPPLIES + [("input", 0, 2), ("output", 0, 3), ("output", 1, 5)]
SMALL_BOXES = [(3, 4, 0)]


class AgreesTest(unittest.TestCase):
    def cases_of(self, netlist, masks):
        """The list of the cases in which masks agree with a netlist."""
        readback = Readback(*masks)
        found = []
        for inputs, states in samples.all_cases(netlist):
            result = agrees(netlist, readback, inputs, states)
            self.assertIsInstance(result, bool)
            if result:
                found.append((inputs, states))
        return found

    def check_small(self, expected, transistors=SMALL_GATES, ports=SMALL_PORTS, boxes=SMALL_BOXES):
        masks = layouts.layout(8, transistors, ports, boxes)
        found = self.cases_of(SMALL, masks)
        self.assertEqual([inputs + states for inputs, states in found], expected)

    EVERY = [[0, 0], [0, 1], [1, 0], [1, 1]]

    def test_masks_that_mean_the_same(self):
        self.check_small(self.EVERY)

    def test_a_missing_output(self):
        self.check_small([], ports=SMALL_PORTS[:-1])
        self.check_small([], ports=SMALL_PORTS[:-2] + SMALL_PORTS[-1:])
        self.check_small([], ports=SMALL_PORTS[:-1] + [("output", 2, 5)])
        self.check_small([], ports=SMALL_PORTS[:-1] + [("output", 1, None)])
        self.check_small([], ports=SMALL_PORTS[:-1] + [("input", 1, 5)])

    def test_outputs_with_wrong_levels(self):
        # Output 1 is an input, the state, an unknown or an open node.
        self.check_small([[0, 1], [1, 0]], ports=SMALL_PORTS[:-1] + [("output", 1, 2)])
        self.check_small([], ports=SMALL_PORTS[:-1] + [("output", 1, 4)])
        self.check_small([], ports=SMALL_PORTS[:-1] + [("output", 1, 6)])
        self.check_small([], ports=SMALL_PORTS[:-1] + [("output", 1, 5)], transistors=inverter(2, 3))

    def test_more_outputs(self):
        self.check_small(self.EVERY, ports=SMALL_PORTS + [("output", 2, 4), ("output", 9, None)])
        self.check_small(self.EVERY, ports=SMALL_PORTS[::-1])

    def test_next_states(self):
        # The box has the state itself at d; then another node, with an open level.
        self.check_small([[0, 1], [1, 0]], boxes=[(4, 4, 0)])
        self.check_small([], boxes=[(6, 4, 0)])
        self.check_small([[0, 0], [1, 1]], boxes=[(5, 4, 0)])

    def test_boxes_that_hold_latches(self):
        self.check_small([], boxes=[])
        self.check_small([], boxes=[(3, 4, None)])
        # The latch of the netlist has the number 0.
        self.check_small([], boxes=[(3, 4, 1)])
        # Other boxes do not matter, if they do not fix a node of the circuit.
        self.check_small(self.EVERY, boxes=SMALL_BOXES + [(6, 7, 1), (6, 7, 5), (2, 7, None)])
        self.check_small(self.EVERY, boxes=[(6, 7, 3)] + SMALL_BOXES)

    def test_a_latch_that_no_box_holds(self):
        # Without the box the output is right where a is 0, and the box is still missing.
        netlist = read_netlist("in a; l = latch a; y = nand a l; out y;")
        nand = [("n", 2, 0, 5), ("n", 3, 5, 4), ("p", 2, 4, 1), ("p", 3, 4, 1)]
        ports = SUPPLIES + [("input", 0, 2), ("output", 0, 4)]
        for boxes in ([], [(2, 3, None)], [(2, 3, 1)]):
            self.assertEqual(self.cases_of(netlist, layouts.layout(6, nand, ports, boxes)), [])
        masks = layouts.layout(6, nand, ports, [(2, 3, 0)])
        self.assertEqual(self.cases_of(netlist, masks), samples.all_cases(netlist))

    def test_numbers_that_the_netlist_has_not(self):
        # They are fixed at 3: the netlist has one input and one latch.
        self.check_small([], ports=SMALL_PORTS[:2] + SMALL_PORTS[3:] + [("input", 1, 2)])
        self.check_small([], boxes=[(3, 7, 0), (3, 4, 1)])
        self.check_small([], ports=SMALL_PORTS + [("input", 1, 4)])
        self.check_small([], boxes=SMALL_BOXES + [(3, 2, 2)])
        self.check_small(self.EVERY, ports=SMALL_PORTS + [("input", 1, 7), ("input", 8, None)])
        # A node that is fixed at 3 and needed in some cases only: a nand of a and of input 1.
        netlist = read_netlist("in a; out y; k = zero; y = nand a k;")
        nand = [("n", 2, 0, 4), ("n", 3, 4, 5), ("p", 2, 5, 1), ("p", 3, 5, 1)]
        ports = SUPPLIES + [("input", 0, 2), ("input", 1, 3), ("output", 0, 5)]
        masks = layouts.layout(6, nand, ports)
        self.assertEqual(self.cases_of(netlist, masks), [([0], [])])

    def test_two_boxes_that_hold_one_latch(self):
        for others, expected in (((3, 3), self.EVERY), ((3, 2), []), ((2, 3), []), ((3, 4), [[0, 1], [1, 0]])):
            sheet = layouts.Layout(8)
            for transistor in SMALL_GATES:
                sheet.transistor(*transistor)
            for port in SMALL_PORTS:
                sheet.port(*port)
            sheet.twin_boxes((others[0], 4), (others[1], 7), 0)
            found = self.cases_of(SMALL, sheet.masks())
            self.assertEqual([inputs + states for inputs, states in found], expected)

    def test_latches_that_the_circuit_has_not(self):
        # Nothing depends on the latch k, so no box must hold it; but one may, with its next state.
        netlist = read_netlist("in a; out y; m = latch a; y = latch m; k = latch y;")
        self.assertEqual(map_cells(netlist)[3], (0, 1))
        ports = [("input", 0, 0), ("output", 0, 2)]
        boxes = [(0, 1, 0), (1, 2, 1)]
        every = samples.all_cases(netlist)
        self.assertEqual(self.cases_of(netlist, layouts.layout(4, [], ports, boxes)), every)
        self.assertEqual(self.cases_of(netlist, layouts.layout(4, [], ports, boxes[1:])), [])
        more = boxes + [(2, 3, 2)]
        self.assertEqual(self.cases_of(netlist, layouts.layout(4, [], ports, more)), every)
        more = boxes + [(0, 3, 2)]
        some = [case for case in every if case[0][0] == case[1][1]]
        self.assertEqual(self.cases_of(netlist, layouts.layout(4, [], ports, more)), some)

    def check_all_cases(self, netlist, row_count):
        circuit = map_cells(netlist)
        placement = samples.arbitrary_placement(row_count, circuit, row_count)
        every = samples.all_cases(netlist)
        masks = layouts.drawn(circuit, placement)
        self.assertEqual(self.cases_of(netlist, masks), every)
        # With each output one further, they agree where the values happen to be so.
        turned = (circuit[0], circuit[1], circuit[2][1:] + circuit[2][:1], circuit[3])
        some = []
        for inputs, states in every:
            values = output_values(netlist, inputs, states)
            if values[1:] + values[:1] == values:
                some.append((inputs, states))
        self.assertEqual(self.cases_of(netlist, layouts.drawn(turned, placement)), some)

    def test_netlists(self):
        netlists = [samples.FULL_ADDER, samples.COUNTER, samples.SWAP]
        netlists += [samples.arbitrary_netlist(seed) for seed in range(25)]
        for seed, netlist in enumerate(netlists):
            with self.subTest(netlist=netlist):
                self.check_all_cases(netlist, seed % 6 + 1)

    def test_another_next_state(self):
        # The masks of a netlist whose latches exchange their inputs.
        for seed in range(12):
            inputs, outputs, gates = samples.arbitrary_netlist(seed)
            outputs = ("l", "k")
            sources = {name: given for name, kind, given in gates if kind == "latch"}
            exchange = {"l": sources["k"], "k": sources["l"]}
            other = tuple((name, kind, exchange.get(name, given)) for name, kind, given in gates)
            one, two = (inputs, outputs, gates), (inputs, outputs, other)
            some = [(bits, states) for bits, states in samples.all_cases(one)
                    if next_states(one, bits, states) == next_states(two, bits, states)]
            self.assertEqual(self.cases_of(one, layouts.drawn(map_cells(two))), some)

    def test_wrong_values(self):
        for netlist in (SMALL, samples.COUNTER, samples.SWAP, samples.FULL_ADDER):
            readback = Readback(*layouts.drawn(map_cells(netlist)))
            input_count, state_count = bits_of(netlist)
            inputs, states = [0] * input_count, [1] * state_count
            pairs = [(wrong, states) for wrong in samples.wrong_bits(input_count)]
            pairs += [(inputs, wrong) for wrong in samples.wrong_bits(state_count)]
            pairs += [([None] * input_count + [0], states)]
            for pair in pairs:
                with self.subTest(pair=pair), self.assertRaises(InvalidValues):
                    agrees(netlist, readback, *pair)

    def test_netlists_without_a_circuit(self):
        netlist = samples.too_large_netlist()
        readback = Readback([], [])
        with self.assertRaises(TooLarge):
            agrees(netlist, readback, [0, 1], [])
        for inputs, states in (([0], []), ([0, 2], []), ([0, 1], [0])):
            with self.assertRaises(InvalidValues):
                agrees(netlist, readback, inputs, states)

    def test_arguments_are_not_changed(self):
        readback = Readback(*layouts.layout(8, SMALL_GATES, SMALL_PORTS, SMALL_BOXES))
        inputs, states = [1], [0]
        self.assertIs(agrees(SMALL, readback, inputs, states), True)
        self.assertEqual((inputs, states), ([1], [0]))


if __name__ == "__main__":
    unittest.main()
