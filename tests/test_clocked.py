"""Points 1, 2 and 9: a clocked netlist."""

import unittest

import samples
from gatesread.clocked import Clocked
from gatesread.errors import InvalidValues

SHIFT = (
    ("d",),
    ("r", "x"),
    (
        ("p", "latch", ("d",)),
        ("q", "latch", ("p",)),
        ("x", "xor", ("d", "r")),
        ("r", "latch", ("q",)),
    ),
)


class ClockedTest(unittest.TestCase):
    def test_states_are_zero_at_first(self):
        self.assertEqual(Clocked(SHIFT).states(), [0, 0, 0])
        self.assertEqual(Clocked(samples.COUNTER).states(), [0, 0])
        self.assertEqual(Clocked(samples.FULL_ADDER).states(), [])

    def test_clock(self):
        clocked = Clocked(SHIFT)
        seen = [(clocked.clock([d]), clocked.states()) for d in (1, 0, 1, 1, 0, 0)]
        expected = [
            ([0, 1], [1, 0, 0]),
            ([0, 0], [0, 1, 0]),
            ([0, 1], [1, 0, 1]),
            ([1, 0], [1, 1, 0]),
            ([0, 0], [0, 1, 1]),
            ([1, 1], [0, 0, 1]),
        ]
        self.assertEqual(seen, expected)

    def test_outputs_are_those_of_the_states_before(self):
        counter = Clocked(samples.COUNTER)
        outputs = [counter.clock([up]) for up in (1, 1, 0, 1, 1, 1)]
        self.assertEqual(outputs, [[0, 0], [1, 0], [0, 1], [0, 1], [1, 1], [0, 0]])
        self.assertEqual(counter.states(), [1, 0])

    def test_all_states_change_at_once(self):
        swap = Clocked(samples.SWAP)
        swap.load([1, 0, 1])
        self.assertEqual(swap.clock([]), [1, 0, 1])
        self.assertEqual(swap.states(), [0, 1, 1])
        self.assertEqual(swap.clock([]), [0, 1, 1])
        self.assertEqual(swap.states(), [1, 0, 1])

    def test_without_latches(self):
        adder = Clocked(samples.FULL_ADDER)
        adder.load([])
        self.assertEqual(adder.clock([1, 1, 0]), [0, 1])
        self.assertEqual(adder.clock([1, 1, 1]), [1, 1])
        self.assertEqual(adder.states(), [])

    def test_load(self):
        clocked = Clocked(SHIFT)
        for states in samples.bit_lists(3):
            self.assertIsNone(clocked.load(states))
            self.assertEqual(clocked.states(), states)
        clocked.load([0, 0, 1])
        self.assertEqual(clocked.clock([1]), [1, 0])

    def test_wrong_states_change_nothing(self):
        clocked = Clocked(SHIFT)
        clocked.load([0, 1, 0])
        for wrong in samples.wrong_bits(3):
            with self.subTest(wrong):
                with self.assertRaises(InvalidValues):
                    clocked.load(wrong)
                self.assertEqual(clocked.states(), [0, 1, 0])
        self.assertEqual(clocked.clock([0]), [0, 0])

    def test_wrong_inputs_change_nothing(self):
        clocked = Clocked(SHIFT)
        clocked.load([1, 0, 0])
        for wrong in samples.wrong_bits(1):
            with self.subTest(wrong):
                with self.assertRaises(InvalidValues):
                    clocked.clock(wrong)
                self.assertEqual(clocked.states(), [1, 0, 0])

    def test_wrong_inputs_of_a_netlist_without_inputs(self):
        swap = Clocked(samples.SWAP)
        swap.load([1, 0, 0])
        with self.assertRaises(InvalidValues):
            swap.clock([0])
        self.assertEqual(swap.states(), [1, 0, 0])

    def test_wrong_states_of_a_netlist_without_latches(self):
        adder = Clocked(samples.FULL_ADDER)
        with self.assertRaises(InvalidValues):
            adder.load([0])
        self.assertEqual(adder.states(), [])

    def test_two_objects_share_nothing(self):
        one = Clocked(SHIFT)
        other = Clocked(SHIFT)
        one.clock([1])
        self.assertEqual((one.states(), other.states()), ([1, 0, 0], [0, 0, 0]))
        other.load([0, 1, 1])
        self.assertEqual((one.states(), other.states()), ([1, 0, 0], [0, 1, 1]))
        self.assertEqual(Clocked(SHIFT).states(), [0, 0, 0])

    def test_two_objects_loaded_from_one_list(self):
        states = [0, 0, 0]
        one = Clocked(SHIFT)
        other = Clocked(SHIFT)
        one.load(states)
        other.load(states)
        one.clock([1])
        self.assertEqual((one.states(), other.states()), ([1, 0, 0], [0, 0, 0]))

    def test_lists_may_be_changed_afterwards(self):
        clocked = Clocked(SHIFT)
        states = [1, 1, 0]
        clocked.load(states)
        states[0] = 0
        states.append(5)
        self.assertEqual(clocked.states(), [1, 1, 0])
        clocked.states().clear()
        clocked.states()[1] = 0
        self.assertEqual(clocked.states(), [1, 1, 0])
        inputs = [1]
        outputs = clocked.clock(inputs)
        self.assertEqual(inputs, [1])
        inputs[0] = 2
        outputs.reverse()
        outputs.append(7)
        self.assertEqual(clocked.states(), [1, 1, 1])
        self.assertEqual(clocked.clock([0]), [1, 1])

    def test_states_before_a_clock_are_kept_by_the_caller(self):
        clocked = Clocked(SHIFT)
        before = clocked.states()
        clocked.clock([1])
        self.assertEqual(before, [0, 0, 0])


if __name__ == "__main__":
    unittest.main()
