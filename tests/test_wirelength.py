"""Points 24 and 26: the wire of a net and of a placement."""

import unittest

import samples
from gatesread.errors import InvalidPlacement, NoSuchThing
from gatesread.wirelength import net_wire, placement_wire

# Inputs 0 and 1; cell 0 is a nand2 (0 1 2), cell 1 a not (2 3), cell 2 a tie0 (4).
THREE = (2, (("nand2", (0, 1), 2), ("not", (2,), 3), ("tie0", (), 4)), (3, 0), ())


def oracle_wires(circuit, placement):
    """The wires of all nets."""
    wires = []
    for places in samples.placed_pins(circuit, placement).values():
        rows, columns = zip(*places)
        wires.append(max(columns) - min(columns) + 8 * (max(rows) - min(rows)))
    return wires


class WireTest(unittest.TestCase):
    def check(self, circuit, placement, wires):
        with self.subTest(circuit=circuit, placement=placement):
            copy = [list(row) for row in placement]
            self.assertEqual([net_wire(circuit, placement, net) for net in range(len(wires))], wires)
            self.assertEqual(placement_wire(circuit, placement), sum(wires))
            self.assertEqual(placement, copy)

    def test_one_row(self):
        # Row -1: 0 at 1, 1 at 3. Row 0: 0 at 2, 1 at 4, 2 at 6 and 8, 3 at 10, 4 at 12.
        # Row 1: 3 at 1, 0 at 3.
        self.check(THREE, [[0, 1, 2]], [3 - 1 + 16, 4 - 3 + 8, 2, 10 - 1 + 8, 0])

    def test_another_order(self):
        # Row 0: 4 at 2, 2 at 4, 3 at 6, 0 at 8, 1 at 10, 2 at 12.
        self.check(THREE, [[2, 1, 0]], [8 - 1 + 16, 10 - 3 + 8, 8, 6 - 1 + 8, 0])

    def test_two_rows(self):
        # Row 0: 2 at 2, 3 at 4. Row 1: 0 at 1, 1 at 3, 2 at 5, 4 at 7. Row 2: 3 at 2, 0 at 4.
        self.check(THREE, [[1], [0, 2]], [4 - 1 + 24, 0 + 16, 5 - 2 + 8, 4 - 2 + 16, 0])

    def test_empty_rows(self):
        # Row 2: 2 at 2, 3 at 4, 0 at 6, 1 at 8, 2 at 10. Row 4: 4 at 2. Row 6: 3 at 2, 0 at 4.
        self.check(THREE, [[], [], [1, 0], [], [2], []],
                   [6 - 1 + 56, 8 - 3 + 24, 8, 4 - 2 + 32, 0])

    def test_pads_only(self):
        # Row -1: 0 at 1, 1 at 3. Row 1: 1 at 1, 0 at 3, 1 at 5. With two rows 2, 4 and 6.
        self.check(samples.NO_CELLS, [[]], [2 + 16, 4 + 16])
        self.check(samples.NO_CELLS, [[], []], [3 + 24, 4 + 24])

    def test_without_inputs(self):
        # Row 0: 0 at 2 and 4, 1 at 6, 1 at 8, 0 at 10, 2 at 12. Row 1: 2 at 1 and 3, 0 at 5.
        self.check(samples.NO_INPUTS, [[0, 1, 2]], [8 + 8, 2, 11 + 8])

    def test_net_with_one_pin(self):
        circuit = (3, (), (1,), ())
        self.check(circuit, [[], [], []], [0, 3 - 1 + 32, 0])

    def test_arbitrary_placements(self):
        for circuit, placement in samples.some_placements():
            self.check(circuit, placement, oracle_wires(circuit, placement))

    def test_forty_cells(self):
        circuit = samples.arbitrary_circuit(9, 6, 40, 4)
        for row_count in range(1, 7):
            placement = samples.arbitrary_placement(9, circuit, row_count)
            self.check(circuit, placement, oracle_wires(circuit, placement))


class WrongArgumentsTest(unittest.TestCase):
    def test_wrong_placements(self):
        for circuit in (THREE, samples.LATCHES):
            samples.check_wrong_placements(
                self, lambda wrong: placement_wire(circuit, wrong), circuit)
            samples.check_wrong_placements(
                self, lambda wrong: net_wire(circuit, wrong, 0), circuit)

    def test_no_such_net(self):
        for circuit, placement in samples.some_placements()[::7]:
            for net in (-1, circuit[0] + len(circuit[1]), 100):
                with self.assertRaises(NoSuchThing):
                    net_wire(circuit, placement, net)

    def test_the_placement_comes_first(self):
        for net in (-1, 5, 100):
            samples.check_wrong_placements(
                self, lambda wrong: net_wire(THREE, wrong, net), THREE)
        with self.assertRaises(InvalidPlacement):
            net_wire(samples.NO_CELLS, [], 2)


if __name__ == "__main__":
    unittest.main()
