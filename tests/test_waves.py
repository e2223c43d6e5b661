"""Points 61 and 62: how the values of the nets change in time."""

import unittest
from functools import lru_cache

import samples
from gatesread.arranging import arrange
from gatesread.arrivals import net_arrivals, net_load
from gatesread.cellkinds import cell_value
from gatesread.cellvalues import cell_values
from gatesread.channels import route
from gatesread.errors import InvalidValues
from gatesread.waves import net_waves, value_at

OWN_DELAYS = {"not": 2, "nand2": 3, "nor2": 3, "nand3": 4, "nor3": 5}

# Input 0 goes to a nand2 directly and over three nots, so that a pulse comes out of it.
PULSE = (1, (("not", (0,), 1), ("not", (1,), 2), ("not", (2,), 3), ("nand2", (0, 3), 4)), (4,), ())


def channels_of(circuit, placement=None):
    return route(circuit, arrange(circuit, placement or [list(range(len(circuit[1])))]))


class WavesByWords:
    """The values of nets at times, each from the values of the inputs of its cell before."""

    def __init__(self, circuit, channels, before, inputs, states):
        self.circuit = circuit
        self.loads = [net_load(circuit, channels, net) for net in range(len(before))]
        self.before = before
        latches = [cell[2] for cell in circuit[1] if cell[0] == "latch"]
        self.new = dict(enumerate(inputs))
        self.new.update(zip(latches, states))
        self.value = lru_cache(maxsize=None)(self.find_value)

    def find_value(self, net, time):
        if time < 0:
            return self.before[net]
        if net in self.new:
            return self.new[net] if time >= self.loads[net] else self.before[net]
        kind, sources, output = self.circuit[1][net - self.circuit[0]]
        if kind in ("tie0", "tie1"):
            return int(kind[-1])
        delay = self.loads[net] + OWN_DELAYS[kind]
        return cell_value(kind, [self.value(source, time - delay) for source in sources])

    def waves(self, end):
        found = []
        for net in range(len(self.before)):
            values = [self.value(net, time) for time in range(end)]
            found.append([(time, value) for time, value in enumerate(values)
                          if time == 0 or value != values[time - 1]])
        return found


class NetWavesTest(unittest.TestCase):
    def check(self, circuit, channels, before, inputs, states):
        with self.subTest(circuit=circuit, before=before, inputs=inputs, states=states):
            waves = net_waves(circuit, channels, before, inputs, states)
            arrivals = net_arrivals(circuit, channels)
            words = WavesByWords(circuit, channels, before, inputs, states)
            self.assertEqual(waves, words.waves(max(arrivals, default=0) + 40))
            settled = cell_values(circuit, inputs, states)
            for net, wave in enumerate(waves):
                self.assertEqual(wave[0][0], 0)
                self.assertLessEqual(wave[-1][0], arrivals[net])
                self.assertEqual(value_at(wave, arrivals[net]), settled[net])
            return waves

    def test_an_inverter(self):
        circuit = (1, (("not", (0,), 1),), (1,), ())
        channels = channels_of(circuit)
        # The lengths of the nets are 18 and 34, and the delay of the not is 4.
        self.assertEqual([net_load(circuit, channels, net) for net in (0, 1)], [1, 2])
        waves = self.check(circuit, channels, [0, 1], [1], [])
        self.assertEqual(waves, [[(0, 0), (1, 1)], [(0, 1), (5, 0)]])
        self.assertEqual(self.check(circuit, channels, [1, 0], [1], []), [[(0, 1)], [(0, 0)]])
        # The value before time 0 does not fit: it is replaced at once.
        self.assertEqual(self.check(circuit, channels, [0, 0], [0], []), [[(0, 0)], [(0, 1)]])
        self.assertEqual(self.check(circuit, channels, [0, 0], [1], []),
                         [[(0, 0), (1, 1)], [(0, 1), (5, 0)]])

    def test_nets_without_a_load(self):
        # Input 0, a latch and a not that nothing needs.
        circuit = (2, (("latch", (1,), 2), ("not", (1,), 3)), (1,), (0,))
        channels = channels_of(circuit)
        self.assertEqual([net_load(circuit, channels, net) for net in (0, 2, 3)], [0, 0, 0])
        waves = self.check(circuit, channels, [0, 0, 0, 0], [1, 0], [1])
        self.assertEqual((waves[0], waves[2], waves[3]), ([(0, 1)], [(0, 1)], [(0, 1)]))

    def test_ties(self):
        circuit = (0, (("tie0", (), 0), ("tie1", (), 1), ("nor2", (0, 1), 2)), (0, 2), ())
        channels = channels_of(circuit)
        delay = net_load(circuit, channels, 2) + 3
        for before in samples.bit_lists(3):
            waves = self.check(circuit, channels, before, [], [])
            self.assertEqual(waves[:2], [[(0, 0)], [(0, 1)]])
            first = 1 - max(before[:2])
            self.assertEqual(waves[2], [(0, 0)] if first == 0 else [(0, 1), (delay, 0)])

    def test_a_pulse(self):
        channels = channels_of(PULSE)
        waves = self.check(PULSE, channels, [0, 1, 0, 1, 1], [1], [])
        self.assertEqual([value for time, value in waves[4]], [1, 0, 1])
        self.assertEqual([len(wave) for wave in waves], [2, 2, 2, 2, 3])
        waves = self.check(PULSE, channels, [1, 0, 1, 0, 1], [0], [])
        self.assertEqual(waves[4], [(0, 1)])

    def test_a_pulse_shorter_than_a_delay(self):
        # Another nand2 delays the pulse of the first one by more than the pulse is long.
        cells = PULSE[1] + (("tie1", (), 5), ("nand2", (4, 5), 6), ("not", (6,), 7))
        circuit = (1, cells, (7, 6, 6, 6, 6, 6), ())
        channels = channels_of(circuit)
        waves = self.check(circuit, channels, [0, 1, 0, 1, 1, 1, 0, 1], [1], [])
        (start, low), (end, high) = waves[4][1:]
        delay = net_load(circuit, channels, 6) + 3
        self.assertLess(end - start, delay)
        self.assertEqual(waves[6], [(0, 0), (start + delay, 1), (end + delay, 0)])

    def test_two_changes_at_one_time(self):
        # A nor2 of a and b, which change at one time: no pulse comes out of it.
        circuit = (2, (("nor2", (0, 1), 2),), (2,), ())
        for placement in ([[0]], [[], [0]]):
            channels = channels_of(circuit, placement)
            loads = [net_load(circuit, channels, net) for net in (0, 1, 2)]
            self.assertEqual(loads[0], loads[1])
            for before, inputs in (([0, 1], [1, 0]), ([1, 0], [0, 1])):
                waves = self.check(circuit, channels, before + [0], inputs, [])
                self.assertEqual(waves[2], [(0, 0)])
            waves = self.check(circuit, channels, [0, 0, 1], [1, 1], [])
            self.assertEqual(waves[2], [(0, 1), (loads[0] + loads[2] + 3, 0)])

    def test_latches(self):
        circuit = samples.LATCHES
        channels = channels_of(circuit)
        numbers = samples.Numbers(4)
        for inputs in samples.bit_lists(1):
            for states in samples.bit_lists(4):
                self.check(circuit, channels, [numbers.below(2) for _ in range(8)], inputs, states)

    def test_no_cells(self):
        channels = channels_of(samples.NO_CELLS)
        waves = self.check(samples.NO_CELLS, channels, [0, 1], [1, 1], [])
        load = net_load(samples.NO_CELLS, channels, 0)
        self.assertEqual(waves, [[(0, 0), (load, 1)], [(0, 1)]])

    def test_all_values_of_small_circuits(self):
        for seed in range(6):
            circuit = samples.arbitrary_circuit(seed, 2, 4, seed % 2)
            channels = channels_of(circuit)
            for before in samples.bit_lists(6):
                for inputs in samples.bit_lists(2):
                    for states in samples.bit_lists(seed % 2):
                        self.check(circuit, channels, before, inputs, states)

    def test_arbitrary_circuits(self):
        for seed, (circuit, placement) in enumerate(samples.some_placements()[::2]):
            numbers = samples.Numbers(seed)
            bits = [numbers.below(2) for _ in range(60)]
            inputs, states = bits[:circuit[0]], bits[10:10 + len(circuit[3])]
            before = bits[20:20 + circuit[0] + len(circuit[1])]
            self.check(circuit, channels_of(circuit, placement), before, inputs, states)

    def test_forty_cells(self):
        for seed in range(3):
            circuit = samples.arbitrary_circuit(seed, 6, 40, 4)
            numbers = samples.Numbers(seed)
            bits = [numbers.below(2) for _ in range(56)]
            self.check(circuit, channels_of(circuit), bits[:46], bits[46:52], bits[52:])

    def test_wrong_values(self):
        for circuit in (PULSE, samples.LATCHES, samples.NO_INPUTS):
            channels = channels_of(circuit)
            counts = (circuit[0] + len(circuit[1]), circuit[0], len(circuit[3]))
            for place, count in enumerate(counts):
                for wrong in samples.wrong_bits(count) + [[None] * (count + 1)]:
                    lists = [[0] * many for many in counts]
                    lists[place] = wrong
                    with self.subTest(lists=lists), self.assertRaises(InvalidValues):
                        net_waves(circuit, channels, *lists)

    def test_arguments_and_results_are_not_kept(self):
        channels = channels_of(PULSE)
        before, inputs, states = [0, 1, 0, 1, 1], [1], []
        waves = net_waves(PULSE, channels, before, inputs, states)
        copy = [list(wave) for wave in waves]
        for wave in waves:
            wave.clear()
        self.assertEqual((before, inputs, states), ([0, 1, 0, 1, 1], [1], []))
        self.assertEqual(channels, channels_of(PULSE))
        self.assertEqual(net_waves(PULSE, channels, before, inputs, states), copy)


class ValueAtTest(unittest.TestCase):
    def test_times(self):
        wave = [(0, 1), (3, 0), (4, 1), (9, 0)]
        found = [value_at(wave, time) for time in range(12)]
        self.assertEqual(found, [1, 1, 1, 0, 1, 1, 1, 1, 1, 0, 0, 0])
        self.assertEqual(value_at(wave, 100000), 0)
        self.assertEqual([value_at([(0, 0)], time) for time in (0, 1, 50)], [0, 0, 0])
        self.assertEqual([value_at([(0, 1)], time) for time in (0, 1, 50)], [1, 1, 1])
        self.assertEqual(wave, [(0, 1), (3, 0), (4, 1), (9, 0)])


if __name__ == "__main__":
    unittest.main()
