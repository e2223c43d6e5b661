"""Points 21 and 22: hidden flaws, the first cases that show flaws, and the tests of a circuit."""

import unittest
from itertools import product

import samples
from gatesread.errors import NoSuchThing, TooLarge
from gatesread.flaws import shows
from gatesread.flawtests import first_case, hidden_flaws, make_tests

NAND = (2, (("nand2", (0, 1), 2),), (2,), ())


def latches(input_count, latch_count):
    """A circuit whose latches hold an input, or themselves."""
    cells = tuple(("latch", (0,), input_count + k) for k in range(latch_count))
    return input_count, cells, (0,), tuple(range(latch_count))


def nots(input_count):
    """A circuit with a not of each input and a nand3 of the first three nots."""
    cells = tuple(("not", (net,), input_count + net) for net in range(input_count))
    cells += (("nand3", (input_count, input_count + 1, input_count + 2), 2 * input_count),)
    return input_count, cells, (2 * input_count, input_count + 3, 2 * input_count - 1), ()


SMALL = [NAND, latches(1, 2), latches(0, 1), nots(4)] + list(samples.PLACED_CIRCUITS)
SMALL += [samples.arbitrary_circuit(seed, 1 + seed % 4, 7, seed % 3) for seed in range(25)]
MOST = [nots(6), latches(2, 4), latches(6, 0), samples.arbitrary_circuit(5, 4, 15, 2)]
LARGE = [latches(6, 1), latches(3, 4), latches(6, 4), samples.arbitrary_circuit(5, 4, 15, 3)]


def all_cases(circuit):
    return range(2 ** (circuit[0] + len(circuit[3])))


def all_flaws(circuit):
    return list(product(range(circuit[0] + len(circuit[1])), (0, 1)))


def greedy_tests(circuit):
    """The tests of a circuit, by the words of point 22."""
    shown = {case: {flaw for flaw in all_flaws(circuit) if shows(circuit, flaw, case)}
             for case in all_cases(circuit)}
    tests, before = [], set()
    while True:
        news = sorted((-len(shown[case] - before), case) for case in shown)
        if news[0][0] == 0:
            return tests
        tests.append(news[0][1])
        before |= shown[news[0][1]]


class FirstCaseTest(unittest.TestCase):
    def test_nand(self):
        firsts = [first_case(NAND, flaw) for flaw in all_flaws(NAND)]
        self.assertEqual(firsts, [3, 2, 3, 1, 0, 3])

    def test_hidden(self):
        self.assertIsNone(first_case(samples.LOOSE, (2, 0)))
        self.assertIsNone(first_case((0, (("tie0", (), 0),), (0,), ()), (0, 0)))

    def test_no_case_but_the_first(self):
        self.assertEqual(first_case((0, (("tie0", (), 0),), (0,), ()), (0, 1)), 0)

    def test_last_case(self):
        circuit = (3, (("nand3", (0, 1, 2), 3),), (3,), ())
        self.assertEqual(first_case(circuit, (1, 0)), 7)

    def test_all_flaws(self):
        for circuit in SMALL + MOST:
            for flaw in all_flaws(circuit):
                shown = [case for case in all_cases(circuit) if shows(circuit, flaw, case)]
                with self.subTest(circuit=circuit, flaw=flaw):
                    self.assertEqual(first_case(circuit, flaw), min(shown, default=None))

    def test_no_such_thing(self):
        for circuit in SMALL + MOST:
            for flaw in ((-1, 0), (circuit[0] + len(circuit[1]), 0), (0, 2), (0, -1)):
                with self.subTest(circuit=circuit, flaw=flaw):
                    with self.assertRaises(NoSuchThing):
                        first_case(circuit, flaw)


class HiddenFlawsTest(unittest.TestCase):
    def test_none(self):
        self.assertEqual(hidden_flaws(NAND), [])
        self.assertEqual(hidden_flaws(samples.NO_CELLS), [])

    def test_ties(self):
        circuit = (0, (("tie1", (), 0), ("tie0", (), 1)), (1, 0), ())
        self.assertEqual(hidden_flaws(circuit), [(0, 1), (1, 0)])

    def test_cells_that_are_not_needed(self):
        circuit = (2, (("not", (0,), 2), ("nor2", (2, 1), 3), ("not", (1,), 4)), (4,), ())
        hidden = [(0, 0), (0, 1), (2, 0), (2, 1), (3, 0), (3, 1)]
        self.assertEqual(hidden_flaws(circuit), hidden)

    def test_an_output_that_is_always_1(self):
        circuit = (1, (("not", (0,), 1), ("nand2", (0, 1), 2)), (2,), ())
        self.assertEqual(hidden_flaws(circuit), [(0, 0), (0, 1), (1, 0), (2, 1)])
        self.assertEqual(first_case(circuit, (1, 1)), 1)
        self.assertEqual(make_tests(circuit), [1])

    def test_all_flaws(self):
        for circuit in SMALL + MOST:
            hidden = [flaw for flaw in all_flaws(circuit) if first_case(circuit, flaw) is None]
            with self.subTest(circuit):
                self.assertEqual(hidden_flaws(circuit), hidden)

    def test_new_list(self):
        hidden_flaws(samples.LOOSE).clear()
        self.assertNotEqual(hidden_flaws(samples.LOOSE), [])


class MakeTestsTest(unittest.TestCase):
    def test_nand(self):
        self.assertEqual(make_tests(NAND), [3, 1, 2])

    def test_without_cells(self):
        self.assertEqual(make_tests(samples.NO_CELLS), [0, 3])

    def test_one_case(self):
        self.assertEqual(make_tests((0, (("tie1", (), 0),), (0,), ())), [0])

    def test_not(self):
        self.assertEqual(make_tests((1, (("not", (0,), 1),), (1,), ())), [0, 1])

    def test_nor3(self):
        # Case 0 shows 4 flaws, cases 1, 2 and 4 two each: that of the input, and the output's.
        self.assertEqual(make_tests((3, (("nor3", (0, 1, 2), 3),), (3,), ())), [0, 1, 2, 4])

    def test_a_latch_of_itself(self):
        self.assertEqual(make_tests(latches(0, 1)), [0, 1])

    def test_all_circuits(self):
        for circuit in SMALL + MOST:
            with self.subTest(circuit):
                self.assertEqual(make_tests(circuit), greedy_tests(circuit))

    def test_new_list(self):
        make_tests(NAND).clear()
        self.assertEqual(make_tests(NAND), [3, 1, 2])


class TooLargeTest(unittest.TestCase):
    def test_more_than_64_cases(self):
        for circuit in LARGE:
            with self.subTest(circuit):
                with self.assertRaises(TooLarge):
                    first_case(circuit, (0, 0))
                with self.assertRaises(TooLarge):
                    hidden_flaws(circuit)
                with self.assertRaises(TooLarge):
                    make_tests(circuit)

    def test_too_large_comes_first(self):
        for flaw in ((-1, 0), (100, 1), (0, 2), (-1, -1)):
            with self.assertRaises(TooLarge):
                first_case(latches(6, 1), flaw)

    def test_shows_has_no_such_limit(self):
        self.assertTrue(shows(latches(6, 4), (0, 1), 1022))
        self.assertFalse(shows(latches(6, 4), (0, 1), 1023))


if __name__ == "__main__":
    unittest.main()
