"""Point 53: running masks transistor by transistor."""

import unittest
from itertools import product

import layouts
import samples
from gatesread.cellvalues import cell_values, circuit_next, circuit_outputs
from gatesread.errors import BrokenMasks, InvalidValues
from gatesread.machine import Machine
from gatesread.readback import Readback
from test_levels import inverter

SUPPLIES = [("ground", 0, 0), ("power", 0, 1)]

# A not whose input 3 is node 2 and whose output 5 is node 3, and a latch 4 from node 3 to 4.
NOT_AND_LATCH = (5, inverter(2, 3), SUPPLIES + [("input", 3, 2), ("output", 5, 3)], [(3, 4, 4)])


def machine_of_layout(*parts):
    return Machine(*layouts.layout(*parts))


def wrong_values(count):
    """Lists that are not count items of 0, 1 and None."""
    wrong = [[0] * (count + 1), [None] * (count + 2)]
    wrong += [[1] * length for length in range(count)]
    for place in range(count):
        for value in (2, 3, -1):
            values = [None] * count
            values[place] = value
            wrong.append(values)
    return wrong


def completions(values):
    """All lists of bits with a bit in the place of each None."""
    return [list(bits) for bits in product(*[(0, 1) if value is None else (value,) for value in values])]


class NumbersTest(unittest.TestCase):
    def check(self, machine, inputs, outputs, latches):
        self.assertEqual(machine.input_numbers(), inputs)
        self.assertEqual(machine.output_numbers(), outputs)
        self.assertEqual(machine.latch_numbers(), latches)
        self.assertEqual(machine.states(), [0] * len(latches))

    def test_nothing(self):
        machine = Machine([], [])
        self.check(machine, [], [], [])
        self.assertEqual(machine.levels([]), [])
        self.assertEqual(machine.clock([]), [])
        self.assertIsNone(machine.load([]))

    def test_ascending_numbers(self):
        ports = [("output", 7, 0), ("input", 5, 1), ("output", 1, 1), ("input", 0, 0), ("input", 3, 2)]
        machine = machine_of_layout(3, [], ports, [(0, 1, 9), (1, 2, 2), (0, 2, None), (0, 0, 4)])
        self.check(machine, [0, 3, 5], [1, 7], [2, 4, 9])

    def test_labels_without_a_node_and_without_a_box(self):
        rectangles, labels = layouts.layout(1, [], [("output", 2, None), ("input", 1, None)])
        labels += [("latch", 3, -1000, -1000), ("latch", 4, 0, 0), ("power", 0, -1000, -1000)]
        self.check(Machine(rectangles, labels), [1], [2], [])

    def test_two_boxes_that_hold_one_latch(self):
        sheet = layouts.Layout(4)
        sheet.box(0, 1, 6)
        sheet.twin_boxes((0, 1), (2, 3), 5)
        self.check(Machine(*sheet.masks()), [], [], [5, 6])

    def test_a_latch_with_two_labels(self):
        rectangles, labels = layouts.layout(2, [], [], [(0, 1, 8)])
        (kind, number, x, y), = labels
        self.check(Machine(rectangles, labels + [("latch", 2, x, y)]), [], [], [8])

    def test_broken_masks(self):
        with self.assertRaises(BrokenMasks):
            Machine([("metal1", 0, 0, 2, 9)], [])


class LevelsTest(unittest.TestCase):
    def test_supplies_inputs_and_states(self):
        machine = machine_of_layout(*NOT_AND_LATCH)
        for value, out in ((0, 1), (1, 0), (None, 3)):
            for state in (0, 1, None):
                machine.load([state])
                levels = [0, 1, value, out, state]
                expected = [3 if level is None else level for level in levels]
                self.assertEqual(machine.levels([value]), expected)
                self.assertEqual(machine.states(), [state])

    def test_inputs_in_the_order_of_their_numbers(self):
        ports = [("input", 9, 0), ("input", 2, 1), ("input", 4, 2)]
        machine = machine_of_layout(3, [], ports)
        self.assertEqual(machine.levels([0, 1, None]), [3, 0, 1])

    def test_states_in_the_order_of_the_latches(self):
        machine = machine_of_layout(4, [], [], [(3, 0, 9), (3, 1, 2), (3, 2, 4)])
        machine.load([0, 1, None])
        self.assertEqual(machine.levels([]), [3, 0, 1, 2])

    def test_no_supplies(self):
        parts = (4, inverter(2, 3), [("input", 0, 2)])
        self.assertEqual(machine_of_layout(*parts).levels([0]), [2, 2, 0, 2])

    def test_labels_without_a_node_fix_nothing(self):
        ports = [("ground", 0, None), ("power", 0, 1), ("input", 0, None), ("input", 1, 2)]
        machine = machine_of_layout(4, inverter(2, 3), ports)
        self.assertEqual(machine.levels([1, 0]), [2, 1, 0, 1])
        self.assertEqual(machine.levels([0, 1]), [2, 1, 1, 2])

    def test_outputs_and_boxes_without_a_latch_fix_nothing(self):
        machine = machine_of_layout(2, [], [("output", 0, 0)], [(0, 1, None)])
        self.assertEqual(machine.levels([]), [2, 2])

    def test_a_node_that_would_be_fixed_at_two_levels(self):
        machine = machine_of_layout(1, [], [("input", 0, 0), ("input", 1, 0), ("input", 2, 0)])
        for values in product((0, 1, None), repeat=3):
            level = values[0] if values[0] is not None and len(set(values)) == 1 else 3
            self.assertEqual(machine.levels(list(values)), [level])
        machine = machine_of_layout(1, [], SUPPLIES[:1] + [("power", 0, 0)])
        self.assertEqual(machine.levels([]), [3])
        for port, level in (("ground", 0), ("power", 1)):
            machine = machine_of_layout(2, [], [("input", 0, 1), (port, 0, 1)])
            for value in (0, 1, None):
                self.assertEqual(machine.levels([value]), [2, level if value == level else 3])
        machine = machine_of_layout(2, [], [("input", 0, 1)], [(0, 1, 3)])
        for value, state in product((0, 1, None), repeat=2):
            machine.load([state])
            level = value if value == state and value is not None else 3
            self.assertEqual(machine.levels([value]), [2, level])

    def test_two_latches_with_one_q(self):
        machine = machine_of_layout(2, [], [], [(1, 0, 0), (1, 0, 1)])
        for states, level in (([0, 0], 0), ([1, 1], 1), ([0, 1], 3), ([None, 1], 3)):
            machine.load(states)
            self.assertEqual(machine.levels([]), [level, 2])

    def test_a_latch_in_two_boxes_fixes_both(self):
        sheet = layouts.Layout(4)
        sheet.twin_boxes((0, 1), (2, 3), 5)
        machine = Machine(*sheet.masks())
        machine.load([1])
        self.assertEqual(machine.levels([]), [2, 1, 2, 1])


class ClockTest(unittest.TestCase):
    def test_states_change_behind_the_outputs(self):
        # Node 4 is q of the latch, which is output 6, too.
        node_count, transistors, ports, boxes = NOT_AND_LATCH
        machine = machine_of_layout(node_count, transistors, ports + [("output", 6, 4)], boxes)
        self.assertEqual(machine.clock([0]), [1, 0])
        self.assertEqual(machine.states(), [1])
        self.assertEqual(machine.clock([1]), [0, 1])
        self.assertEqual(machine.states(), [0])
        self.assertEqual(machine.clock([None]), [3, 0])
        self.assertEqual(machine.states(), [None])
        self.assertEqual(machine.clock([0]), [1, 3])
        self.assertEqual(machine.states(), [1])

    def test_outputs_in_the_order_of_their_numbers(self):
        ports = [("output", 8, 0), ("output", 3, 1), ("output", 5, 2), ("output", 4, None)]
        machine = machine_of_layout(3, [], SUPPLIES + ports)
        self.assertEqual(machine.clock([]), [1, 2, 2, 0])

    def test_open_and_unknown_next_states(self):
        # Both boxes have an open d at first; then one of them an unknown one.
        machine = machine_of_layout(4, [], [("input", 0, 2)], [(0, 1, 0), (2, 3, 1)])
        self.assertEqual(machine.clock([1]), [])
        self.assertEqual(machine.states(), [None, 1])
        machine.clock([None])
        self.assertEqual(machine.states(), [None, None])
        machine.clock([0])
        self.assertEqual(machine.states(), [None, 0])

    def test_the_first_box_of_a_latch_counts(self):
        for first, second in ((2, 3), (3, 2)):
            sheet = layouts.Layout(4)
            sheet.port("input", 0, 2)
            sheet.port("input", 1, 3)
            sheet.twin_boxes((first, 0), (second, 1), 5)
            machine = Machine(*sheet.masks())
            for values in product((0, 1, None), repeat=2):
                machine.clock(list(values))
                self.assertEqual(machine.states(), [values[first - 2]])

    def test_a_row_of_latches(self):
        boxes = [(0, 1, 2), (1, 2, 0), (2, 3, 1)]
        machine = machine_of_layout(4, [], [("input", 0, 0), ("output", 0, 3)], boxes)
        outputs = [machine.clock([value])[0] for value in (1, 0, 1, 1, None, 0, 0, 0, 0)]
        self.assertEqual(outputs, [0, 0, 0, 1, 0, 1, 1, 3, 0])
        # A latch that holds its own state.
        machine = machine_of_layout(1, [], [], [(0, 0, 3)])
        for state in (1, 0, None):
            machine.load([state])
            self.assertEqual(machine.clock([]), [])
            self.assertEqual(machine.states(), [state])

    def test_each_kind_of_cell(self):
        for kind, count in samples.INPUT_COUNTS.items():
            if kind == "latch":
                continue
            circuit = (count, ((kind, tuple(range(count)), count),), (count,), ())
            machine = Machine(*layouts.drawn(circuit))
            for inputs in product((0, 1, None), repeat=count):
                found = {cell_values(circuit, bits, [])[count] for bits in completions(inputs)}
                expected = found.pop() if len(found) == 1 else 3
                with self.subTest(kind=kind, inputs=inputs):
                    self.assertEqual(machine.clock(list(inputs)), [expected])

    def test_a_latch_cell(self):
        machine = Machine(*layouts.drawn((1, (("latch", (0,), 1),), (1, 0), (3,))))
        self.assertEqual(machine.latch_numbers(), [3])
        found = [machine.clock([value]) for value in (1, 0, None, 1)]
        self.assertEqual(found, [[0, 1], [1, 0], [0, 3], [3, 1]])

    def check_circuit(self, circuit, placement):
        machine = Machine(*layouts.drawn(circuit, placement))
        input_count, cells, outputs, latches = circuit
        self.assertEqual(machine.input_numbers(), list(range(input_count)))
        self.assertEqual(machine.output_numbers(), list(range(len(outputs))))
        self.assertEqual(machine.latch_numbers(), sorted(latches))
        numbers = samples.Numbers(len(cells))
        for _ in range(6):
            inputs = [numbers.below(2) for _ in range(input_count)]
            held = dict(zip(sorted(latches), machine.states()))
            states = [held[latch] for latch in latches]
            after = dict(zip(latches, circuit_next(circuit, inputs, states)))
            self.assertEqual(machine.clock(inputs), circuit_outputs(circuit, inputs, states))
            self.assertEqual(machine.states(), [after[latch] for latch in sorted(latches)])

    def test_circuits(self):
        for circuit, placement in samples.some_placements():
            with self.subTest(circuit=circuit, placement=placement):
                self.check_circuit(circuit, placement)

    def test_forty_cells(self):
        for seed in range(4):
            circuit = samples.arbitrary_circuit(seed, 6, 40, 4)
            for row_count in (1, 6):
                self.check_circuit(circuit, samples.arbitrary_placement(seed, circuit, row_count))

    def test_unknown_inputs_of_circuits(self):
        # A level that is known where inputs are not is the one of all their values.
        for seed in range(10):
            circuit = samples.arbitrary_circuit(seed, 3, 12, 2)
            machine = Machine(*layouts.drawn(circuit))
            for values in product((0, 1, None), repeat=5):
                machine.load(list(values[3:]))
                found = [circuit_outputs(circuit, bits[:3], bits[3:]) for bits in completions(values)]
                for k, level in enumerate(machine.clock(list(values[:3]))):
                    expected = {outputs[k] for outputs in found}
                    self.assertTrue(level == 3 or expected == {level})
                    self.assertTrue(None in values or level != 3)


class WrongValuesTest(unittest.TestCase):
    def test_wrong_inputs_and_states(self):
        ports = SUPPLIES + [("input", 0, 2), ("input", 1, 3), ("output", 0, 4)]
        machine = machine_of_layout(5, inverter(2, 4), ports, [(4, 3, 0), (2, 4, 1)])
        machine.load([1, None])
        for method in (machine.levels, machine.clock, machine.load):
            for values in wrong_values(2):
                with self.subTest(method=method.__name__, values=values):
                    with self.assertRaises(InvalidValues):
                        method(values)
                    self.assertEqual(machine.states(), [1, None])

    def test_no_inputs_and_no_latches(self):
        machine = Machine([], [])
        for method in (machine.levels, machine.clock, machine.load):
            with self.assertRaises(InvalidValues):
                method([0])

    def test_one_input_and_one_latch(self):
        machine = machine_of_layout(*NOT_AND_LATCH)
        for method in (machine.levels, machine.clock, machine.load):
            for values in wrong_values(1):
                with self.assertRaises(InvalidValues):
                    method(values)
        self.assertEqual(machine.states(), [0])


class KeepingTest(unittest.TestCase):
    def test_two_machines_share_nothing(self):
        masks = layouts.layout(*NOT_AND_LATCH)
        one, other = Machine(*masks), Machine(*masks)
        one.clock([0])
        self.assertEqual((one.states(), other.states()), ([1], [0]))
        other.load([None])
        self.assertEqual((one.states(), other.states()), ([1], [None]))

    def test_arguments_and_results_are_not_kept(self):
        rectangles, labels = layouts.layout(*NOT_AND_LATCH)
        copies = list(rectangles), list(labels)
        machine = Machine(rectangles, labels)
        self.assertEqual((rectangles, labels), copies)
        rectangles.clear()
        labels.clear()
        states, inputs = [1], [0]
        self.assertIsNone(machine.load(states))
        states[0] = 0
        self.assertEqual(machine.states(), [1])
        machine.states().clear()
        for method in (machine.input_numbers, machine.output_numbers, machine.latch_numbers):
            method().append(17)
        machine.levels(inputs).clear()
        self.assertEqual(machine.levels(inputs), [0, 1, 0, 1, 1])
        machine.clock(inputs).clear()
        self.assertEqual(inputs, [0])
        self.assertEqual(machine.input_numbers(), [3])
        self.assertEqual(machine.output_numbers(), [5])
        self.assertEqual(machine.latch_numbers(), [4])
        self.assertEqual(machine.clock([1]), [0])
        self.assertEqual(machine.states(), [0])

    def test_levels_by_node(self):
        rectangles, labels = layouts.layout(*NOT_AND_LATCH)
        levels = Machine(rectangles, labels).levels([1])
        self.assertEqual(len(levels), Readback(rectangles, labels).node_count())


if __name__ == "__main__":
    unittest.main()
