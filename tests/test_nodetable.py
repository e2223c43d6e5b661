"""Points 10 and 11: the nodes of a table and the rules by which they are found."""

import unittest
from itertools import permutations, product

from gatesread.errors import NoSuchThing
from gatesread.nodetable import NodeTable

A, B, C, L = 2, 3, 4, 5
NOT_A, NOT_B = 6, 7


def nodes_of(table):
    return [table.node(number) for number in range(table.size())]


class TableCase(unittest.TestCase):
    """A table with the inputs A, B, C, the latch L, and then the nots of A and B."""

    def setUp(self):
        self.table = NodeTable(3, 1)
        self.assertEqual(self.table.find_not(A), NOT_A)
        self.assertEqual(self.table.find_not(B), NOT_B)
        self.first = nodes_of(self.table)

    def check(self, found, number, *appended):
        """Check a result, and what has been appended since the last check."""
        self.assertEqual(found, number)
        self.assertEqual(nodes_of(self.table), self.first + list(appended))
        self.first += list(appended)

    def check_new(self, found, *appended):
        """Check that the result is the last of the nodes that were appended."""
        self.check(found, len(self.first) + len(appended) - 1, *appended)


class NewTableTest(unittest.TestCase):
    def test_nodes(self):
        for inputs, latches in product(range(7), range(5)):
            with self.subTest(inputs=inputs, latches=latches):
                table = NodeTable(inputs, latches)
                expected = [("zero",), ("one",)]
                expected += [("input", i) for i in range(inputs)]
                expected += [("latch", i) for i in range(latches)]
                self.assertEqual(nodes_of(table), expected)
                self.assertEqual(table.size(), 2 + inputs + latches)

    def test_inputs_and_latches(self):
        for inputs, latches in product(range(7), range(5)):
            table = NodeTable(inputs, latches)
            for i in range(inputs):
                self.assertEqual(table.input_node(i), 2 + i)
            for i in range(latches):
                self.assertEqual(table.latch_node(i), 2 + inputs + i)

    def test_inputs_and_latches_stay(self):
        table = NodeTable(2, 2)
        table.find_xor(2, 5)
        self.assertEqual([table.input_node(1), table.latch_node(1)], [3, 5])
        self.assertEqual(table.node(6), ("xor", 2, 5))

    def test_tables_share_nothing(self):
        one = NodeTable(2, 0)
        other = NodeTable(2, 0)
        self.assertEqual(one.find_and([2, 3]), 4)
        self.assertEqual(other.size(), 4)
        self.assertEqual(other.find_or([2, 3]), 4)
        self.assertEqual((one.node(4), other.node(4)), (("and", 2, 3), ("or", 2, 3)))


class NotTest(TableCase):
    def test_of_zero_and_one(self):
        self.check(self.table.find_not(0), 1)
        self.check(self.table.find_not(1), 0)

    def test_of_a_not(self):
        self.check(self.table.find_not(NOT_A), A)
        self.check(self.table.find_not(NOT_B), B)

    def test_otherwise(self):
        self.check_new(self.table.find_not(L), ("not", L))
        self.check(self.table.find_not(A), NOT_A)
        self.check_new(self.table.find_and([A, B]), ("and", A, B))
        self.check_new(self.table.find_not(9), ("not", 9))
        self.check(self.table.find_not(10), 9)


class AndTest(TableCase):
    def check_all(self, lists, number):
        for nodes in lists:
            for order in permutations(nodes):
                with self.subTest(order):
                    self.check(self.table.find_and(list(order)), number)

    def test_node_zero(self):
        self.check_all([[0, 0], [0, 1], [0, A], [0, NOT_A]], 0)
        self.check_all([[0, 0, 0], [0, 1, A], [0, A, B], [0, A, A], [0, A, NOT_A], [0, 0, 1]], 0)

    def test_opposites(self):
        self.check_all([[A, NOT_A], [B, NOT_B]], 0)
        self.check_all([[A, NOT_A, C], [A, NOT_A, NOT_B], [1, B, NOT_B], [A, A, NOT_A]], 0)
        self.check_new(self.table.find_and([A, L]), ("and", A, L))
        self.check_new(self.table.find_not(8), ("not", 8))
        self.check_all([[8, 9], [8, 9, B]], 0)

    def test_ones_are_left_out(self):
        self.check_all([[1, 1], [1, 1, 1]], 1)
        self.check_all([[1, A], [1, 1, A]], A)
        self.check_all([[1, NOT_B], [1, 1, NOT_B]], NOT_B)
        self.check_new(self.table.find_and([1, A, B]), ("and", A, B))
        self.check_all([[1, A, B], [A, B]], 8)

    def test_equal_nodes(self):
        self.check_all([[A, A], [A, A, A], [1, A, A]], A)
        self.check_new(self.table.find_and([A, C, A]), ("and", A, C))
        self.check_all([[A, C, A], [C, C, A], [A, C], [1, A, C]], 8)

    def test_ascending_order(self):
        self.check_new(self.table.find_and([C, A]), ("and", A, C))
        self.check_new(self.table.find_and([L, A, B]), ("and", A, B, L))
        self.check_all([[A, B, L]], 9)
        self.check_new(self.table.find_and([9, NOT_B, C]), ("and", C, NOT_B, 9))

    def test_nothing_else_is_simplified(self):
        self.check_new(self.table.find_and([NOT_A, NOT_B]), ("and", NOT_A, NOT_B))
        self.check_new(self.table.find_and([A, B]), ("and", A, B))
        self.check_new(self.table.find_and([A, 9]), ("and", A, 9))
        self.check_new(self.table.find_and([NOT_A, 9]), ("and", NOT_A, 9))
        self.check_new(self.table.find_or([A, B]), ("or", A, B))

    def test_list_is_not_changed(self):
        nodes = [C, 1, A]
        self.table.find_and(nodes)
        self.assertEqual(nodes, [C, 1, A])


class OrTest(TableCase):
    def check_all(self, lists, number):
        for nodes in lists:
            for order in permutations(nodes):
                with self.subTest(order):
                    self.check(self.table.find_or(list(order)), number)

    def test_node_one(self):
        self.check_all([[1, 1], [0, 1], [1, A], [1, NOT_A]], 1)
        self.check_all([[1, 1, 1], [0, 1, A], [1, A, B], [1, A, A], [1, A, NOT_A], [0, 0, 1]], 1)

    def test_opposites(self):
        self.check_all([[A, NOT_A], [B, NOT_B]], 1)
        self.check_all([[A, NOT_A, C], [A, NOT_A, NOT_B], [0, B, NOT_B], [A, A, NOT_A]], 1)
        self.check_new(self.table.find_or([A, L]), ("or", A, L))
        self.check_new(self.table.find_not(8), ("not", 8))
        self.check_all([[8, 9], [8, 9, B]], 1)

    def test_zeros_are_left_out(self):
        self.check_all([[0, 0], [0, 0, 0]], 0)
        self.check_all([[0, A], [0, 0, A]], A)
        self.check_all([[0, NOT_B], [0, 0, NOT_B]], NOT_B)
        self.check_new(self.table.find_or([0, A, B]), ("or", A, B))
        self.check_all([[0, A, B], [A, B]], 8)

    def test_equal_nodes(self):
        self.check_all([[A, A], [A, A, A], [0, A, A]], A)
        self.check_new(self.table.find_or([A, C, A]), ("or", A, C))
        self.check_all([[A, C, A], [C, C, A], [A, C], [0, A, C]], 8)

    def test_ascending_order(self):
        self.check_new(self.table.find_or([C, A]), ("or", A, C))
        self.check_new(self.table.find_or([L, A, B]), ("or", A, B, L))
        self.check_all([[A, B, L]], 9)
        self.check_new(self.table.find_or([9, NOT_B, C]), ("or", C, NOT_B, 9))

    def test_nothing_else_is_simplified(self):
        self.check_new(self.table.find_or([NOT_A, NOT_B]), ("or", NOT_A, NOT_B))
        self.check_new(self.table.find_or([A, B]), ("or", A, B))
        self.check_new(self.table.find_or([A, 9]), ("or", A, 9))
        self.check_new(self.table.find_or([NOT_A, 9]), ("or", NOT_A, 9))

    def test_list_is_not_changed(self):
        nodes = [C, 0, A]
        self.table.find_or(nodes)
        self.assertEqual(nodes, [C, 0, A])


class XorTest(TableCase):
    def check_both(self, x, y, number):
        with self.subTest(x=x, y=y):
            self.check(self.table.find_xor(x, y), number)
            self.check(self.table.find_xor(y, x), number)

    def test_zero_and_one(self):
        self.check_both(0, 0, 0)
        self.check_both(0, 1, 1)
        self.check_both(1, 1, 0)

    def test_with_zero(self):
        self.check_both(0, A, A)
        self.check_both(0, L, L)
        self.check_both(0, NOT_A, NOT_A)

    def test_with_one(self):
        self.check_both(1, A, NOT_A)
        self.check_both(1, NOT_A, A)
        self.check_new(self.table.find_xor(1, C), ("not", C))
        self.check_new(self.table.find_xor(L, 1), ("not", L))

    def test_equal_and_opposite(self):
        self.check_both(A, A, 0)
        self.check_both(NOT_A, NOT_A, 0)
        self.check_both(A, NOT_A, 1)

    def test_ascending_order(self):
        self.check_new(self.table.find_xor(C, A), ("xor", A, C))
        self.check_both(A, C, 8)

    def test_one_not(self):
        self.check_new(self.table.find_xor(NOT_B, A), ("xor", A, B), ("not", 8))
        self.check_both(NOT_A, B, 9)
        self.check_both(A, NOT_B, 9)
        self.check_both(A, B, 8)
        self.check_new(self.table.find_xor(L, NOT_A), ("xor", A, L), ("not", 10))

    def test_two_nots(self):
        self.check_new(self.table.find_xor(NOT_B, NOT_A), ("xor", A, B))
        self.check_both(NOT_A, NOT_B, 8)

    def test_order_of_the_nodes_without_their_nots(self):
        self.check_new(self.table.find_xor(NOT_A, L), ("xor", A, L), ("not", 8))
        self.check_new(self.table.find_not(C), ("not", C))
        self.check_new(self.table.find_xor(10, NOT_A), ("xor", A, C))


class MuxTest(TableCase):
    def check_mux(self, s, a, b, number, *appended):
        with self.subTest(s=s, a=a, b=b):
            self.check(self.table.find_mux(s, a, b), number, *appended)
            self.check(self.table.find_mux(s, a, b), number)

    def test_otherwise(self):
        self.check_mux(C, B, A, 8, ("mux", C, B, A))
        self.check_mux(C, A, B, 9, ("mux", C, A, B))
        self.check_mux(A, NOT_A, NOT_B, 10, ("mux", A, NOT_A, NOT_B))
        self.check_mux(A, A, B, 11, ("mux", A, A, B))
        self.check_mux(A, B, A, 12, ("mux", A, B, A))
        self.check_mux(A, B, NOT_A, 13, ("mux", A, B, NOT_A))
        self.check_mux(C, A, NOT_A, 14, ("mux", C, A, NOT_A))

    def test_not_as_the_choice(self):
        self.check_mux(NOT_A, B, C, 8, ("mux", A, C, B))
        self.check_mux(A, C, B, 8)
        self.check_mux(NOT_A, A, B, 9, ("mux", A, B, A))
        self.check_mux(NOT_A, NOT_B, L, 10, ("mux", A, L, NOT_B))

    def test_not_as_the_choice_ahead_of_the_other_rules(self):
        self.check_mux(NOT_A, C, C, C)
        self.check_mux(NOT_A, 0, 1, NOT_A)
        self.check_mux(NOT_A, 1, 0, A)
        self.check_mux(NOT_A, C, 0, 8, ("and", A, C))
        self.check_mux(NOT_A, 0, C, 9, ("and", C, NOT_A))
        self.check_mux(NOT_A, C, 1, 10, ("or", C, NOT_A))
        self.check_mux(NOT_A, 1, C, 11, ("or", A, C))

    def test_zero_as_the_choice(self):
        for a, b in product((0, 1, A, C, NOT_A), repeat=2):
            self.check_mux(0, a, b, a)

    def test_one_as_the_choice(self):
        for a, b in product((0, 1, A, C, NOT_A), repeat=2):
            self.check_mux(1, a, b, b)

    def test_equal_inputs(self):
        for a in (0, 1, A, B, NOT_A, NOT_B):
            self.check_mux(C, a, a, a)
            self.check_mux(A, a, a, a)

    def test_zero_and_one(self):
        self.check_mux(C, 0, 1, C)
        self.check_mux(A, 1, 0, NOT_A)
        self.check_mux(C, 1, 0, 8, ("not", C))

    def test_first_is_zero(self):
        self.check_mux(C, 0, A, 8, ("and", A, C))
        self.check_mux(A, 0, A, A)
        self.check_mux(A, 0, NOT_A, 0)

    def test_second_is_zero(self):
        self.check_mux(C, A, 0, 9, ("not", C), ("and", A, 8))
        self.check_mux(A, B, 0, 10, ("and", B, NOT_A))
        self.check_mux(A, NOT_A, 0, NOT_A)
        self.check_mux(L, L, 0, 0, ("not", L))

    def test_first_is_one(self):
        self.check_mux(C, 1, A, 9, ("not", C), ("or", A, 8))
        self.check_mux(A, 1, B, 10, ("or", B, NOT_A))
        self.check_mux(A, 1, NOT_A, NOT_A)
        self.check_mux(L, 1, L, 1, ("not", L))

    def test_second_is_one(self):
        self.check_mux(C, A, 1, 8, ("or", A, C))
        self.check_mux(A, A, 1, A)
        self.check_mux(A, NOT_A, 1, 1)


class NoDuplicatesTest(TableCase):
    def every_call(self):
        table = self.table
        for x in range(8):
            yield table.find_not, (x,)
        for x, y in product(range(8), repeat=2):
            yield table.find_xor, (x, y)
            yield table.find_and, ([x, y],)
            yield table.find_or, ([x, y],)
        for x, y, z in product(range(8), repeat=3):
            yield table.find_mux, (x, y, z)
            yield table.find_and, ([x, y, z],)
            yield table.find_or, ([x, y, z],)

    def test_no_two_nodes_are_equal(self):
        found = [method(*arguments) for method, arguments in self.every_call()]
        nodes = nodes_of(self.table)
        self.assertEqual(len(nodes), len(set(nodes)))
        self.assertEqual(nodes[:8], self.first)
        self.assertEqual([method(*arguments) for method, arguments in self.every_call()], found)
        self.assertEqual(nodes_of(self.table), nodes)
        for number, node in enumerate(nodes[8:], 8):
            self.assertIs(type(node), tuple)
            self.assertTrue(all(part < number for part in node[1:]))


class NoSuchThingTest(TableCase):
    def check_refused(self, method, *arguments):
        with self.subTest(method=method.__name__, arguments=arguments):
            with self.assertRaises(NoSuchThing):
                method(*arguments)
            self.assertEqual(nodes_of(self.table), self.first)

    def test_no_node(self):
        for wrong in (-1, -2, -8, 8, 9, 1000):
            self.check_refused(self.table.node, wrong)
            self.check_refused(self.table.find_not, wrong)

    def test_no_input(self):
        for wrong in (-1, -3, 3, 4, 1000):
            self.check_refused(self.table.input_node, wrong)
        with self.assertRaises(NoSuchThing):
            NodeTable(0, 4).input_node(0)

    def test_no_latch(self):
        for wrong in (-1, -2, 1, 2, 1000):
            self.check_refused(self.table.latch_node, wrong)
        with self.assertRaises(NoSuchThing):
            NodeTable(6, 0).latch_node(0)

    def test_no_node_beside_others(self):
        for wrong in (-1, -8, 8, 1000):
            for other in range(8):
                for pair in ([wrong, other], [other, wrong]):
                    self.check_refused(self.table.find_and, pair)
                    self.check_refused(self.table.find_or, pair)
                    self.check_refused(self.table.find_xor, *pair)

    def test_no_node_among_three(self):
        for wrong in (-1, -8, 8):
            for one, other in product((0, 1, A, C, NOT_A), repeat=2):
                for three in ([wrong, one, other], [one, wrong, other], [one, other, wrong]):
                    self.check_refused(self.table.find_and, three)
                    self.check_refused(self.table.find_or, three)
                    self.check_refused(self.table.find_mux, *three)

    def test_a_node_that_is_appended_is_one(self):
        self.check_refused(self.table.find_not, 8)
        self.check_new(self.table.find_xor(A, C), ("xor", A, C))
        self.check_new(self.table.find_not(8), ("not", 8))


if __name__ == "__main__":
    unittest.main()
