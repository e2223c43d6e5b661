"""Point 52: the levels of the nodes of a circuit of transistors."""

import unittest
from itertools import product

import samples
from gatesread.errors import NoSuchThing
from gatesread.levels import settle, switch_state

# Node 0 is ground and node 1 is power in most of the circuits.
SUPPLY = {0: 0, 1: 1}


def inverter(gate, output):
    return [("n", gate, 0, output), ("p", gate, output, 1)]


def paths(node, transistors, fixed, usable):
    """The fixed nodes to which a path leads from a node over the transistors with usable indices.

    All paths that come to no node twice are gone one by one.
    """
    ends = []
    left = [[node]]
    while left:
        path = left.pop()
        for index in usable:
            sides = transistors[index][2:]
            for one, other in (sides, sides[::-1]):
                if one == path[-1] and other in fixed:
                    ends.append(other)
                elif one == path[-1] and other not in path:
                    left.append(path + [other])
    return ends


def level_by_words(node, levels, transistors, fixed):
    states = [switch_state(kind, levels[gate]) for kind, gate, left, right in transistors]
    on = [k for k, state in enumerate(states) if state == "on"]
    possible = [k for k, state in enumerate(states) if state in ("on", "undecided")]
    sure = [fixed[end] for end in paths(node, transistors, fixed, on)]
    may = [fixed[end] for end in paths(node, transistors, fixed, possible)]
    may_be = {level: level in may or 3 in may for level in (0, 1)}
    if 0 in sure and not may_be[1]:
        return 0
    if 1 in sure and not may_be[0]:
        return 1
    return 3 if may_be[0] or may_be[1] else 2


def settle_by_words(node_count, transistors, fixed):
    levels = None
    after = [fixed.get(node, 3) for node in range(node_count)]
    while after != levels:
        levels = after
        after = [fixed[node] if node in fixed else level_by_words(node, levels, transistors, fixed)
                 for node in range(node_count)]
    return levels


class SwitchStateTest(unittest.TestCase):
    def test_all(self):
        expected = {"n": ["off", "on", "undecided", "undecided"],
                    "p": ["on", "off", "undecided", "undecided"]}
        for kind, states in expected.items():
            self.assertEqual([switch_state(kind, level) for level in range(4)], states)


class SettleTest(unittest.TestCase):
    def check(self, node_count, transistors, fixed, expected):
        with self.subTest(transistors=transistors, fixed=fixed):
            self.assertEqual(settle(node_count, transistors, fixed), expected)
            self.assertEqual(settle(node_count, transistors[::-1], fixed), expected)
            turned = [(kind, gate, right, left) for kind, gate, left, right in transistors]
            self.assertEqual(settle(node_count, turned, fixed), expected)
            backward = dict(list(fixed.items())[::-1])
            self.assertEqual(settle(node_count, transistors, backward), expected)

    def test_no_nodes(self):
        self.check(0, [], {}, [])

    def test_no_transistors(self):
        self.check(3, [], {}, [2, 2, 2])
        self.check(4, [], {0: 0, 3: 1, 2: 3}, [0, 2, 3, 1])

    def test_no_fixed_nodes(self):
        self.check(3, [("n", 0, 1, 2), ("p", 1, 0, 2)], {}, [2, 2, 2])

    def test_one_transistor(self):
        for kind, on in (("n", 1), ("p", 0)):
            for source in (0, 1):
                self.check(3, [(kind, 0, 1, 2)], {0: on, 1: source}, [on, source, source])
                self.check(3, [(kind, 0, 1, 2)], {0: 1 - on, 1: source}, [1 - on, source, 2])
                self.check(3, [(kind, 0, 1, 2)], {0: 3, 1: source}, [3, source, 3])
                # The gate gets no level of its own: it is open.
                self.check(3, [(kind, 0, 1, 2)], {1: source}, [2, source, 3])
            self.check(3, [(kind, 0, 1, 2)], {0: on, 1: 3}, [on, 3, 3])
            self.check(3, [(kind, 0, 1, 2)], {0: 1 - on, 1: 3}, [1 - on, 3, 2])

    def test_inverters(self):
        for value, out in ((0, 1), (1, 0), (3, 3)):
            self.check(4, inverter(2, 3), {**SUPPLY, 2: value}, [0, 1, value, out])
        self.check(4, inverter(2, 3), SUPPLY, [0, 1, 2, 3])

    def test_rounds(self):
        row = []
        for k in range(2, 12):
            row += inverter(k, k + 1)
        for value in (0, 1):
            levels = [0, 1] + [value, 1 - value] * 5 + [value]
            self.check(13, row, {**SUPPLY, 2: value}, levels)
        self.check(13, row, {**SUPPLY, 2: 3}, [0, 1] + [3] * 11)

    def test_rings(self):
        # Inverters in a ring stay unknown, whether they are many or few.
        for count in (1, 2, 3, 4):
            ring = []
            for k in range(count):
                ring += inverter(2 + k, 2 + (k + 1) % count)
            self.check(2 + count, ring, SUPPLY, [0, 1] + [3] * count)
        # A ring of transistors that are on, and one that is interrupted.
        ring = [("n", 1, 2, 3), ("n", 1, 3, 4), ("n", 1, 4, 5), ("n", 1, 5, 2)]
        self.check(6, ring, {1: 1}, [2, 1, 2, 2, 2, 2])
        self.check(6, ring, {1: 1, 4: 0}, [2, 1, 0, 0, 0, 0])
        self.check(6, ring[:3], {1: 1, 4: 3}, [2, 1, 3, 3, 3, 3])
        self.check(7, ring[1:], {0: 0, 1: 1, 3: 1, 6: 3}, [0, 1, 1, 1, 1, 1, 3])

    def test_chains_on_off_and_undecided_in_their_parts(self):
        # From ground over 3 and 4 to 5; the gates of the three parts are 6, 7 and 8.
        chain = [("n", 6, 0, 3), ("n", 7, 3, 4), ("n", 8, 4, 5)]
        expected = {
            (1, 1, 1): [0, 0, 0], (0, 1, 1): [2, 2, 2], (1, 0, 1): [0, 2, 2], (1, 1, 0): [0, 0, 2],
            (3, 1, 1): [3, 3, 3], (1, 3, 1): [0, 3, 3], (1, 1, 3): [0, 0, 3], (3, 0, 1): [3, 2, 2],
            (0, 3, 1): [2, 2, 2], (3, 3, 3): [3, 3, 3], (1, 0, 3): [0, 2, 2], (3, 1, 0): [3, 3, 2],
        }
        for gates, levels in expected.items():
            fixed = {**SUPPLY, **dict(zip((6, 7, 8), gates))}
            self.check(9, chain, fixed, [0, 1, 2, *levels, *gates])

    def test_paths_end_at_fixed_nodes(self):
        # From 4 over the fixed node 3 to power: only node 3 counts.
        row = [("n", 1, 4, 3), ("n", 1, 3, 1)]
        for level in (0, 1, 3):
            self.check(5, row, {**SUPPLY, 3: level}, [0, 1, 2, level, level])
        self.check(5, row, SUPPLY, [0, 1, 2, 1, 1])

    def test_fixed_nodes_keep_their_level(self):
        short = [("n", 1, 0, 1), ("n", 1, 0, 2), ("n", 1, 1, 3)]
        for fixed in ({0: 0, 1: 1}, {0: 0, 1: 1, 2: 1, 3: 0}, {0: 3, 1: 1, 2: 3, 3: 3}):
            levels = settle(4, short, fixed)
            self.assertEqual({node: levels[node] for node in fixed}, fixed)
        self.check(4, short, {0: 0, 1: 1}, [0, 1, 0, 1])
        self.check(4, short, {0: 1, 1: 0}, [1, 0, 2, 2])
        self.check(4, short, {0: 0, 1: 3}, [0, 3, 3, 3])

    def test_both_levels(self):
        # Node 3 is connected to ground over the gate 4 and to power over the gate 5.
        pair = [("n", 4, 0, 3), ("n", 5, 1, 3)]
        expected = {(1, 1): 3, (1, 0): 0, (0, 1): 1, (0, 0): 2, (1, 3): 3, (3, 1): 3,
                    (0, 3): 3, (3, 0): 3, (3, 3): 3}
        for gates, level in expected.items():
            fixed = {**SUPPLY, 4: gates[0], 5: gates[1]}
            self.check(6, pair, fixed, [0, 1, 2, level, *gates])

    def test_nodes_fixed_at_3(self):
        # Node 2 is connected to ground, and perhaps to the node 3 that is fixed at 3.
        for gate, level in ((1, 3), (3, 3), (0, 0)):
            row = [("n", 1, 0, 2), ("n", 4, 2, 3)]
            self.check(5, row, {**SUPPLY, 3: 3, 4: gate}, [0, 1, level, 3, gate])
            row = [("n", 1, 1, 2), ("n", 4, 2, 3)]
            level = {3: 3, 0: 1}[level]
            self.check(5, row, {**SUPPLY, 3: 3, 4: gate}, [0, 1, level, 3, gate])

    def test_parallel_and_looping_transistors(self):
        self.check(4, [("n", 3, 0, 2), ("p", 3, 0, 2)], {**SUPPLY, 3: 3}, [0, 1, 3, 3])
        self.check(4, [("n", 3, 0, 2), ("p", 3, 0, 2)], {**SUPPLY, 3: 1}, [0, 1, 0, 1])
        self.check(3, [("n", 1, 2, 2)], SUPPLY, [0, 1, 2])
        self.check(3, [("n", 2, 2, 2), ("n", 2, 2, 0)], SUPPLY, [0, 1, 3])
        # The gate is the node itself.
        self.check(3, [("p", 2, 2, 0)], SUPPLY, [0, 1, 3])

    def test_arbitrary_circuits(self):
        for seed in range(400):
            numbers = samples.Numbers(seed)
            node_count = 2 + numbers.below(6)
            transistors = [("np"[numbers.below(2)], *[numbers.below(node_count) for _ in range(3)])
                           for _ in range(numbers.below(9))]
            fixed = {numbers.below(node_count): (0, 1, 3)[numbers.below(3)] for _ in range(numbers.below(4))}
            fixed.update({0: 0, 1: 1} if seed % 3 else {})
            expected = settle_by_words(node_count, transistors, fixed)
            self.check(node_count, transistors, fixed, expected)

    def test_all_fixed_levels_of_a_small_circuit(self):
        nand = [("n", 2, 0, 4), ("n", 3, 4, 5), ("p", 2, 5, 1), ("p", 3, 5, 1)]
        for levels in product((0, 1, 3), repeat=4):
            fixed = dict(enumerate(levels))
            self.check(6, nand, fixed, settle_by_words(6, nand, fixed))

    def test_long_rows(self):
        row = []
        for k in range(2, 502):
            row += inverter(k, k + 1)
        self.assertEqual(settle(503, row, {**SUPPLY, 2: 0}), [0, 1] + [0, 1] * 250 + [0])
        chain = [("p", 0, k, k + 1) for k in range(1, 1000)]
        self.assertEqual(settle(1001, chain, {0: 0, 1000: 1}), [0] + [1] * 1000)

    def test_nodes_that_are_not_there(self):
        for wrong in (-1, 3, 4, 1000):
            for place in range(3):
                transistor = [0, 1, 2]
                transistor[place] = wrong
                for kind in "np":
                    with self.subTest(transistor=transistor), self.assertRaises(NoSuchThing):
                        settle(3, [("n", 0, 1, 2), (kind, *transistor)], SUPPLY)
            with self.assertRaises(NoSuchThing):
                settle(3, [], {0: 0, wrong: 1})
        for transistors, fixed in (([("n", 0, 0, 0)], {}), ([], {0: 3})):
            with self.assertRaises(NoSuchThing):
                settle(0, transistors, fixed)

    def test_arguments_and_results_are_not_kept(self):
        transistors, fixed = inverter(2, 3), {**SUPPLY, 2: 1}
        settle(4, transistors, fixed).clear()
        self.assertEqual((transistors, fixed), (inverter(2, 3), {**SUPPLY, 2: 1}))
        self.assertEqual(settle(4, transistors, fixed), [0, 1, 1, 0])


if __name__ == "__main__":
    unittest.main()
