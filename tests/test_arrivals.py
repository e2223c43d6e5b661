"""Points 33 and 34: loads, arrivals, the longest time and the longest path."""

import unittest

import samples
from gatesread.arranging import arrange
from gatesread.arrivals import longest_path, longest_time, net_arrivals, net_load
from gatesread.channels import route
from gatesread.errors import NoSuchThing
from gatesread.lengths import net_length

OWN_DELAYS = {"not": 2, "nand2": 3, "nor2": 3, "nand3": 4, "nor3": 5}


def wires(lengths):
    """Channels in which nets have some lengths, which are multiples of 8."""
    return [[(net, 0, 0, length // 8, [])] for net, length in lengths.items()]


def loads_of(circuit, channels):
    return [net_load(circuit, channels, net) for net in range(circuit[0] + len(circuit[1]))]


def arrival_by_words(circuit, channels, net):
    load = net_load(circuit, channels, net)
    if net < circuit[0]:
        return load
    kind, sources, output = circuit[1][net - circuit[0]]
    if kind == "latch":
        return load
    if kind in ("tie0", "tie1"):
        return 0
    latest = max(arrival_by_words(circuit, channels, source) for source in sources)
    return latest + load + OWN_DELAYS[kind]


class LoadTest(unittest.TestCase):
    def test_pins_and_outputs(self):
        self.assertEqual(loads_of(samples.EACH_KIND, []), [3, 2, 1, 1, 1, 2, 1, 1, 1, 2])
        self.assertEqual(loads_of(samples.LATCHES, []), [2, 1, 2, 1, 2, 2, 1, 0])
        self.assertEqual(loads_of(samples.NO_CELLS, []), [1, 2])

    def test_lengths(self):
        for length, load in ((0, 1), (16, 1), (24, 2), (40, 2), (48, 3), (240, 11)):
            self.assertEqual(net_load(samples.EACH_KIND, wires({3: length}), 3), load)
        # The lengths are added first, and then divided.
        self.assertEqual(net_load(samples.EACH_KIND, wires({3: 16}) + wires({3: 16}), 3), 2)
        self.assertEqual(net_load(samples.EACH_KIND, wires({2: 240}), 3), 1)

    def test_routed(self):
        # Net 0 has the lengths 18 and 18, net 1 the length 26, net 2 none.
        circuit = (1, (("not", (0,), 1), ("not", (1,), 2)), (0,), ())
        channels = route(circuit, arrange(circuit, [[0, 1]]))
        self.assertEqual(loads_of(circuit, channels), [3, 2, 0])

    def test_arbitrary_placements(self):
        for circuit, placement in samples.some_placements():
            channels = route(circuit, arrange(circuit, placement))
            for net, load in enumerate(loads_of(circuit, channels)):
                ends = [source for cell in circuit[1] for source in cell[1] if source == net]
                ends += [output for output in circuit[2] if output == net]
                self.assertEqual(load, len(ends) + net_length(channels, net) // 24)

    def test_no_such_net(self):
        for circuit in samples.PLACED_CIRCUITS:
            for net in (-1, circuit[0] + len(circuit[1]), 100):
                with self.assertRaises(NoSuchThing):
                    net_load(circuit, [], net)
                with self.assertRaises(NoSuchThing):
                    net_load(circuit, wires({net: 24}), net)


class TimesTest(unittest.TestCase):
    def check(self, circuit, channels, arrivals, path):
        with self.subTest(circuit=circuit, channels=channels):
            self.assertEqual(net_arrivals(circuit, channels), arrivals)
            self.assertEqual(longest_path(circuit, channels), path)
            self.assertEqual(longest_time(circuit, channels), arrivals[path[-1]])

    def test_each_kind(self):
        self.check(samples.EACH_KIND, [], [3, 2, 1, 0, 7, 14, 17, 0, 22, 27], [0, 4, 5, 6, 8, 9])

    def test_latches(self):
        self.check(samples.LATCHES, [], [2, 5, 2, 9, 2, 14, 1, 0], [0, 1, 3, 5])

    def test_lengths_delay(self):
        # Nets 4 and 3 go to a nor2; with 7 more, net 4 is as slow as net 3.
        self.check(samples.LATCHES, wires({4: 144}), [2, 5, 2, 9, 8, 14, 1, 0], [0, 1, 3, 5])
        self.check(samples.LATCHES, wires({4: 168}), [2, 5, 2, 9, 9, 14, 1, 0], [4, 5])
        self.check(samples.LATCHES, wires({0: 48, 3: 24}), [4, 7, 2, 12, 2, 17, 1, 0], [0, 1, 3, 5])

    def test_the_first_input_that_arrives_latest(self):
        self.check((2, (("nand2", (0, 1), 2),), (2,), ()), [], [1, 1, 5], [0, 2])
        self.check((2, (("nand2", (1, 0), 2),), (2,), ()), [], [1, 1, 5], [1, 2])
        self.check((3, (("nor3", (2, 0, 1), 3),), (3,), ()), wires({0: 24, 1: 24}),
                   [2, 2, 1, 8], [0, 3])

    def test_the_least_end_net(self):
        cells = (("not", (0,), 2), ("not", (1,), 3), ("nand2", (2, 3), 4))
        self.check((2, cells, (3, 2), ()), [], [1, 1, 5, 5, 8], [0, 2])
        self.check((2, (("nor2", (0, 1), 2),), (1, 0), ()), [], [2, 2, 5], [0])

    def test_an_end_net_at_the_input_of_a_latch(self):
        # Net 2 is no end net, so the latest one is the input of the latch.
        cells = (("not", (0,), 1), ("not", (1,), 2), ("not", (2,), 3), ("latch", (2,), 4))
        self.check((1, cells, (0,), (0,)), [], [2, 5, 9, 11, 0], [0, 1, 2])

    def test_paths_from_latches_and_ties(self):
        self.check((0, (("latch", (1,), 0), ("not", (0,), 1)), (0,), (0,)), [], [2, 5], [0, 1])
        self.check((0, (("tie1", (), 0), ("not", (0,), 1)), (1,), ()), [], [0, 3], [0, 1])
        self.check((0, (("tie1", (), 0),), (0, 0), ()), wires({0: 48}), [0], [0])
        self.check((1, (("tie0", (), 1),), (1, 0), ()), [], [1, 0], [0])

    def test_pads_only(self):
        self.check(samples.NO_CELLS, [], [1, 2], [1])
        self.check((1, (), (0, 0), ()), [], [2], [0])

    def test_arbitrary_placements(self):
        for circuit, placement in samples.some_placements():
            channels = route(circuit, arrange(circuit, placement))
            arrivals = [arrival_by_words(circuit, channels, net)
                        for net in range(circuit[0] + len(circuit[1]))]
            self.check(circuit, channels, arrivals, self.path_by_words(circuit, arrivals))

    def path_by_words(self, circuit, arrivals):
        ends = set(circuit[2]) | {cell[1][0] for cell in circuit[1] if cell[0] == "latch"}
        last = max(arrivals[net] for net in ends)
        path = [min(net for net in ends if arrivals[net] == last)]
        while path[0] >= circuit[0] and circuit[1][path[0] - circuit[0]][0] in OWN_DELAYS:
            sources = circuit[1][path[0] - circuit[0]][1]
            latest = max(arrivals[net] for net in sources)
            path = [next(net for net in sources if arrivals[net] == latest)] + path
        return path

    def test_forty_cells(self):
        circuit = samples.arbitrary_circuit(6, 6, 40, 4)
        channels = route(circuit, arrange(circuit, samples.arbitrary_placement(6, circuit, 3)))
        arrivals = [arrival_by_words(circuit, channels, net) for net in range(46)]
        self.check(circuit, channels, arrivals, self.path_by_words(circuit, arrivals))

    def test_new_lists(self):
        for function in (net_arrivals, longest_path):
            found = function(samples.EACH_KIND, [])
            copy = list(found)
            found.clear()
            self.assertEqual(function(samples.EACH_KIND, []), copy)


if __name__ == "__main__":
    unittest.main()
