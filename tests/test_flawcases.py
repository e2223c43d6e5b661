"""Point 66: the least cases that show flaws, for circuits with any number of cases."""

import unittest
from itertools import product

import samples
from gatesread.errors import NoSuchThing
from gatesread.flawcases import least_case
from gatesread.flaws import shows
from gatesread.flawtests import first_case
from test_flawtests import LARGE, MOST, SMALL, all_cases, all_flaws

# A nand tree over six inputs and four latches: its last net is stuck at 1 in one case only.
WIDE = (
    6,
    (
        ("latch", (0,), 6), ("latch", (1,), 7), ("latch", (2,), 8), ("latch", (3,), 9),
        ("nand3", (0, 1, 2), 10), ("nand3", (3, 4, 5), 11), ("nand2", (6, 7), 12), ("nand2", (8, 9), 13),
        ("nor2", (10, 11), 14), ("nor2", (12, 13), 15), ("nand2", (14, 15), 16),
    ),
    (16,),
    (0, 1, 2, 3),
)


class LeastCaseTest(unittest.TestCase):
    def check(self, circuit, flaw, expected):
        with self.subTest(circuit=circuit, flaw=flaw):
            self.assertEqual(least_case(circuit, flaw), expected)

    def test_a_nand(self):
        circuit = (2, (("nand2", (0, 1), 2),), (2,), ())
        for flaw, case in {(0, 0): 3, (0, 1): 2, (1, 0): 3, (1, 1): 1, (2, 0): 0, (2, 1): 3}.items():
            self.check(circuit, flaw, case)

    def test_small_circuits(self):
        for circuit in SMALL + MOST:
            for flaw in all_flaws(circuit):
                self.check(circuit, flaw, first_case(circuit, flaw))

    def test_hidden_flaws(self):
        # Net 2 goes nowhere; net 4 is 1 always, and net 0 does not count beside it.
        circuit = (1, (("tie1", (), 1), ("not", (0,), 2), ("tie0", (), 3), ("nand2", (0, 3), 4)), (4, 1), ())
        for flaw in ((2, 0), (2, 1), (4, 1), (0, 0), (0, 1), (3, 0), (1, 1)):
            self.check(circuit, flaw, None)
        self.check(circuit, (3, 1), 1)
        self.check(circuit, (4, 0), 0)
        self.check(circuit, (1, 0), 0)

    def test_circuits_with_many_cases(self):
        for circuit in LARGE:
            for flaw in all_flaws(circuit):
                cases = [case for case in all_cases(circuit) if shows(circuit, flaw, case)]
                self.check(circuit, flaw, min(cases, default=None))

    def test_ten_inputs_and_latch_cells(self):
        self.check(WIDE, (16, 1), 1023)
        self.check(WIDE, (16, 0), 0)
        self.check(WIDE, (14, 1), 0b1111000000)
        self.check(WIDE, (15, 1), 0b0000111111)
        # Input 0 is the next state of latch cell 0.
        self.check(WIDE, (0, 1), 0)
        self.check(WIDE, (0, 0), 1)
        self.check(WIDE, (4, 1), 0b1111101111)
        self.check(WIDE, (9, 0), 1023)
        self.check(WIDE, (9, 1), 0b0111111111)

    def test_flaws_of_latches(self):
        # The latch holds its own state, and its output is an output.
        circuit = (0, (("latch", (0,), 0), ("latch", (0,), 1)), (0,), (2, 1))
        self.check(circuit, (0, 0), 1)
        self.check(circuit, (0, 1), 0)
        self.check(circuit, (1, 0), None)
        self.check(circuit, (1, 1), None)

    def test_forty_cells(self):
        circuit = samples.arbitrary_circuit(3, 6, 40, 4)
        for net, value in product(range(46), (0, 1)):
            case = least_case(circuit, (net, value))
            if case is not None:
                self.assertTrue(shows(circuit, (net, value), case))
            for less in range(min(case or 0, 30)):
                self.assertFalse(shows(circuit, (net, value), less))

    def test_no_such_flaw(self):
        for circuit in [WIDE] + list(samples.PLACED_CIRCUITS):
            nets = circuit[0] + len(circuit[1])
            for flaw in ((-1, 0), (nets, 1), (nets + 5, 0), (0, 2), (0, -1), (nets - 1, 3)):
                with self.subTest(circuit=circuit, flaw=flaw), self.assertRaises(NoSuchThing):
                    least_case(circuit, flaw)


if __name__ == "__main__":
    unittest.main()
