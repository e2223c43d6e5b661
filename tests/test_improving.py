"""Points 26 and 27: exchanging two cells, and improving a placement."""

import unittest
from itertools import combinations

import samples
from gatesread.errors import NoSuchThing
from gatesread.improving import exchange, improve
from gatesread.placing import first_placement
from gatesread.wirelength import placement_wire

# The pads of inputs and outputs stand in the order of cell 1 and cell 0.
CROSSED = (2, (("not", (1,), 2), ("not", (0,), 3)), (3, 2), ())


def three_ties(output):
    """A circuit of three cells of which only one goes to an output."""
    return 0, (("tie0", (), 0), ("tie0", (), 1), ("tie1", (), 2)), (output,), ()


def wire_after(circuit, placement, pair):
    return placement_wire(circuit, exchange(placement, *pair))


def improved_steps(circuit, placement):
    """The placements from a placement to the improved one, by the words of point 27."""
    steps = [placement]
    pairs = list(combinations(range(len(circuit[1])), 2))
    while pairs:
        wires = [wire_after(circuit, steps[-1], pair) for pair in pairs]
        if min(wires) >= placement_wire(circuit, steps[-1]):
            break
        steps.append(exchange(steps[-1], *pairs[wires.index(min(wires))]))
    return steps


class ExchangeTest(unittest.TestCase):
    def check(self, placement, one, other, after):
        copy = [list(row) for row in placement]
        self.assertEqual(exchange(placement, one, other), after)
        self.assertEqual(exchange(placement, other, one), after)
        self.assertEqual(placement, copy)

    def test_in_one_row(self):
        self.check([[0, 1, 2]], 0, 1, [[1, 0, 2]])
        self.check([[0, 1, 2]], 0, 2, [[2, 1, 0]])
        self.check([[3], [2, 0, 1]], 1, 0, [[3], [2, 1, 0]])

    def test_in_two_rows(self):
        self.check([[0, 1], [2, 3]], 1, 2, [[0, 2], [1, 3]])
        self.check([[0, 1], [], [2, 3], []], 0, 3, [[3, 1], [], [2, 0], []])
        self.check([[], [4, 0, 2], [3], [1]], 2, 1, [[], [4, 0, 1], [3], [2]])

    def test_new_lists(self):
        placement = [[0], [1, 2], []]
        after = exchange(placement, 1, 2)
        for row in after:
            row.append(9)
        self.assertEqual(placement, [[0], [1, 2], []])
        self.assertEqual(after, [[0, 9], [2, 1, 9], [9]])

    def test_no_such_cells(self):
        for placement in ([[0, 1, 2]], [[2], [], [0, 1]], [[1], [0, 2]]):
            for one, other in ((0, 0), (2, 2), (0, 3), (3, 0), (-1, 0), (1, -1), (3, 4), (3, 3)):
                with self.subTest(placement=placement, one=one, other=other):
                    with self.assertRaises(NoSuchThing):
                        exchange(placement, one, other)

    def test_no_cells(self):
        for one, other in ((0, 0), (0, 1)):
            with self.assertRaises(NoSuchThing):
                exchange([[], []], one, other)


class ImproveTest(unittest.TestCase):
    def check(self, circuit, placement):
        """Check the improved placement; return the number of exchanges."""
        with self.subTest(circuit=circuit, placement=placement):
            copy = [list(row) for row in placement]
            steps = improved_steps(circuit, placement)
            improved = improve(circuit, placement)
            self.assertEqual(improved, steps[-1])
            self.assertEqual(improve(circuit, improved), improved)
            self.assertEqual(placement, copy)
            return len(steps) - 1

    def test_one_exchange(self):
        # [[0, 1]]: 1 at 2, 2 at 4, 0 at 6, 3 at 8. The wires are 5 + 8, 1 + 8, 1 + 8, 7 + 8.
        self.assertEqual(placement_wire(CROSSED, [[0, 1]]), 46)
        # [[1, 0]]: 0 at 2, 3 at 4, 1 at 6, 2 at 8. The wires are 1 + 8, 3 + 8, 5 + 8, 3 + 8.
        self.assertEqual(placement_wire(CROSSED, [[1, 0]]), 44)
        self.assertEqual(improve(CROSSED, [[0, 1]]), [[1, 0]])
        self.assertEqual(improve(CROSSED, [[1, 0]]), [[1, 0]])

    def test_the_best_pair_first(self):
        # Only cell 0 counts: the exchange with 1 makes the wire less, that with 2 still less.
        self.assertEqual(improve(three_ties(0), [[2, 1, 0]]), [[0, 1, 2]])
        self.assertEqual(improve(three_ties(0), [[1, 2, 0]]), [[0, 2, 1]])

    def test_the_least_first_cell(self):
        # Cell 2 is as good in both places of row 1.
        self.assertEqual(improve(three_ties(2), [[2], [0, 1]]), [[0], [2, 1]])
        self.assertEqual(improve(three_ties(2), [[2], [1, 0]]), [[0], [1, 2]])

    def test_the_least_second_cell(self):
        self.assertEqual(improve(three_ties(0), [[0], [1, 2]]), [[1], [0, 2]])
        self.assertEqual(improve(three_ties(0), [[0], [2, 1]]), [[1], [2, 0]])

    def test_exchanges_that_change_nothing(self):
        self.assertEqual(improve(three_ties(0), [[2], [1, 0]]), [[2], [1, 0]])
        self.assertEqual(improve(three_ties(1), [[0], [1, 2]]), [[0], [1, 2]])

    def test_equal_exchanges(self):
        # How often several exchanges were equally good: with several first cells, with one.

        equal = [0, 0]
        for seed in range(40):
            circuit = samples.arbitrary_circuit(seed, 2, 6, seed % 3)
            placement = samples.arbitrary_placement(seed, circuit, 1 + seed % 3)
            self.check(circuit, placement)
            for step in improved_steps(circuit, placement)[:-1]:
                wires = {pair: wire_after(circuit, step, pair) for pair in combinations(range(6), 2)}
                best = [pair for pair in wires if wires[pair] == min(wires.values())]
                equal[0] += len({one for one, other in best}) > 1
                equal[1] += len([pair for pair in best if pair[0] == best[0][0]]) > 1
        self.assertGreater(min(equal), 0)

    def test_arbitrary_placements(self):
        counts = [self.check(*pair) for pair in samples.some_placements()]
        self.assertGreater(max(counts), 3)

    def test_first_placements(self):
        for seed in range(6):
            circuit = samples.arbitrary_circuit(seed, 3, 10, 2)
            self.check(circuit, first_placement(circuit, 1 + seed))

    def test_rows_stay_as_long(self):
        circuit = samples.arbitrary_circuit(4, 3, 9, 1)
        improved = improve(circuit, [[0, 1, 2, 3], [], [4, 5, 6, 7, 8], []])
        self.assertEqual([len(row) for row in improved], [4, 0, 5, 0])

    def test_fewer_than_two_cells(self):
        self.check(samples.NO_CELLS, [[]])
        self.check(samples.NO_CELLS, [[], [], []])
        self.check((1, (("not", (0,), 1),), (1,), ()), [[], [0]])

    def test_forty_cells(self):
        circuit = samples.arbitrary_circuit(8, 6, 40, 4)
        placement = first_placement(circuit, 5)
        improved = improve(circuit, placement)
        wire = placement_wire(circuit, improved)
        self.assertLess(wire, placement_wire(circuit, placement))
        for pair in combinations(range(40), 2):
            self.assertGreaterEqual(wire_after(circuit, improved, pair), wire)
        self.assertEqual(improve(circuit, improved), improved)

    def test_new_lists(self):
        for placement in ([[0, 1]], [[1, 0]], [[], [1], [0]]):
            copy = [list(row) for row in placement]
            for row in improve(CROSSED, placement):
                row.append(9)
            self.assertEqual(placement, copy)

    def test_wrong_placements(self):
        for circuit in (samples.EACH_KIND, samples.LOOSE):
            samples.check_wrong_placements(self, lambda wrong: improve(circuit, wrong), circuit)


if __name__ == "__main__":
    unittest.main()
