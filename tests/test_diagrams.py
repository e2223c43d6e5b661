"""Points 63 and 64: diagrams of functions from bits to a bit."""

import unittest
from itertools import product

import samples
from gatesread.diagrams import Diagrams
from gatesread.errors import InvalidValues, NoSuchThing


def bits_of_cases(count):
    """The bits of all cases of count variables, in the order of the case numbers."""
    return [[case >> i & 1 for i in range(count)] for case in range(2 ** count)]


def table_of(diagrams, f, count):
    """The values of a function in all cases, in the order of the case numbers."""
    return [diagrams.value(f, bits) for bits in bits_of_cases(count)]


def node_of(diagrams, values, count):
    """The node of the function with these values in all cases, as an or of ands."""
    result = 0
    for bits, value in zip(bits_of_cases(count), values):
        case = value
        for i, bit in enumerate(bits):
            x = diagrams.variable(i)
            case = diagrams.both(case, x if bit else diagrams.negate(x))
        result = diagrams.either(result, case)
    return result


def state_of(diagrams):
    return [diagrams.node(number) for number in range(2, diagrams.size())]


class Calls:
    """A table with its truth tables by words; each call of it is checked."""

    def __init__(self, test, count):
        self.test = test
        self.count = count
        self.diagrams = Diagrams(count)
        self.tables = {0: [0] * 2 ** count, 1: [1] * 2 ** count}
        self.numbers = {tuple(table): number for number, table in self.tables.items()}

    def expect(self, name, arguments, table):
        """Call a method, check that its node has these values, and that it is that of this table."""
        method = getattr(self.diagrams, name)
        number = method(*arguments)
        key = tuple(table)
        self.test.assertEqual(table_of(self.diagrams, number, self.count), list(table))
        self.test.assertEqual(self.numbers.setdefault(key, number), number)
        size = self.diagrams.size()
        self.test.assertEqual(method(*arguments), number)
        self.test.assertEqual(self.diagrams.size(), size)
        self.tables[number] = list(table)
        return number

    def call(self, name, *nodes):
        rows = zip(*[self.tables[node] for node in nodes])
        rules = {
            "choose": lambda f, g, h: g if f else h, "negate": lambda f: 1 - f,
            "both": lambda f, g: f & g, "either": lambda f, g: f | g, "differ": lambda f, g: f ^ g,
        }
        return self.expect(name, nodes, [rules[name](*row) for row in rows])

    def variable(self, i):
        return self.expect("variable", (i,), [bits[i] for bits in bits_of_cases(self.count)])

    def check_form(self):
        """Check what point 63 says of the nodes of a table."""
        diagrams = self.diagrams
        nodes = state_of(diagrams)
        self.test.assertEqual(len(set(nodes)), len(nodes))
        for number, (variable, low, high) in enumerate(nodes, 2):
            self.test.assertIsInstance(diagrams.node(number), tuple)
            self.test.assertNotEqual(low, high)
            self.test.assertTrue(0 <= variable < self.count)
            for earlier in (low, high):
                self.test.assertTrue(0 <= earlier < number)
                if earlier > 1:
                    self.test.assertLess(diagrams.node(earlier)[0], variable)
            lows, highs = [table_of(diagrams, node, self.count) for node in (low, high)]
            expected = [highs[k] if bits[variable] else lows[k]
                        for k, bits in enumerate(bits_of_cases(self.count))]
            self.test.assertEqual(table_of(diagrams, number, self.count), expected)
        tables = [tuple(table_of(diagrams, number, self.count)) for number in range(diagrams.size())]
        self.test.assertEqual(len(set(tables)), len(tables))


class DiagramsTest(unittest.TestCase):
    def test_a_new_table(self):
        for count in range(11):
            diagrams = Diagrams(count)
            self.assertEqual(diagrams.size(), 2)
            for f in (0, 1):
                self.assertEqual(diagrams.value(f, [0] * count), f)
                self.assertEqual(diagrams.value(f, [1] * count), f)

    def test_variables(self):
        for count in range(6):
            calls = Calls(self, count)
            for i in reversed(range(count)):
                number = calls.variable(i)
                self.assertEqual(calls.diagrams.node(number), (i, 0, 1))
            self.assertEqual(calls.diagrams.size(), 2 + count)

    def test_no_such_variable(self):
        for count in (0, 1, 4, 10):
            diagrams = Diagrams(count)
            for i in (-1, count, count + 1, 100, -count - 1):
                with self.assertRaises(NoSuchThing):
                    diagrams.variable(i)
            self.assertEqual(diagrams.size(), 2)

    def test_no_variables(self):
        calls = Calls(self, 0)
        for f, g, h in product((0, 1), repeat=3):
            calls.call("choose", f, g, h)
            calls.call("both", f, g)
            calls.call("either", f, g)
            calls.call("differ", f, g)
            calls.call("negate", f)
        self.assertEqual(calls.diagrams.size(), 2)
        self.assertEqual(calls.diagrams.value(1, []), 1)
        self.assertEqual(calls.diagrams.first_case(1), 0)
        self.assertIsNone(calls.diagrams.first_case(0))

    def test_a_known_table(self):
        diagrams = Diagrams(3)
        x, z = diagrams.variable(0), diagrams.variable(2)
        self.assertEqual((x, z), (2, 3))
        both = diagrams.both(z, x)
        self.assertEqual(diagrams.node(both), (2, 0, x))
        self.assertEqual(diagrams.node(diagrams.either(x, z)), (2, x, 1))
        self.assertEqual(diagrams.node(diagrams.negate(z)), (2, 1, 0))
        differ = diagrams.node(diagrams.differ(x, z))
        self.assertEqual(differ, (2, x, diagrams.negate(x)))

    def test_equal_functions_are_one_node(self):
        diagrams = Diagrams(4)
        a, b, c, d = [diagrams.variable(i) for i in (2, 0, 3, 1)]
        no = diagrams.negate
        both, either, differ, choose = diagrams.both, diagrams.either, diagrams.differ, diagrams.choose
        self.assertEqual(no(no(a)), a)
        self.assertEqual(no(both(a, b)), either(no(a), no(b)))
        self.assertEqual(both(a, b), both(b, a))
        self.assertEqual(both(a, both(b, c)), both(both(c, a), b))
        self.assertEqual(both(a, either(b, c)), either(both(a, b), both(a, c)))
        self.assertEqual(differ(a, b), either(both(a, no(b)), both(no(a), b)))
        self.assertEqual(differ(differ(a, b), differ(c, b)), differ(a, c))
        self.assertEqual(choose(a, b, b), b)
        self.assertEqual(choose(a, b, c), either(both(a, b), both(no(a), c)))
        self.assertEqual(choose(no(a), b, c), choose(a, c, b))
        self.assertEqual(both(a, no(a)), 0)
        self.assertEqual(either(d, no(d)), 1)
        self.assertEqual(differ(d, d), 0)
        self.assertEqual(differ(d, no(d)), 1)

    def test_all_functions_of_two_variables(self):
        calls = Calls(self, 2)
        tables = list(product((0, 1), repeat=4))
        nodes = {}
        for table in tables:
            nodes[table] = node_of(calls.diagrams, table, 2)
            calls.tables[nodes[table]] = list(table)
            calls.numbers.setdefault(table, nodes[table])
        self.assertEqual(len(set(nodes.values())), 16)
        for f, g in product(nodes.values(), repeat=2):
            calls.call("both", f, g)
            calls.call("either", f, g)
            calls.call("differ", f, g)
        for f, g, h in product(nodes.values(), repeat=3):
            calls.call("choose", f, g, h)
        for f in nodes.values():
            calls.call("negate", f)
        # There are 16 functions of two variables, and no other.
        self.assertEqual(calls.diagrams.size(), 16)
        calls.check_form()

    def test_arbitrary_calls(self):
        names = {"choose": 3, "negate": 1, "both": 2, "either": 2, "differ": 2}
        for seed in range(30):
            numbers = samples.Numbers(seed)
            calls = Calls(self, 1 + seed % 5)
            nodes = [0, 1] + [calls.variable(i) for i in range(calls.count) if numbers.below(4)]
            for _ in range(25):
                name = list(names)[numbers.below(5)]
                arguments = [nodes[numbers.below(len(nodes))] for _ in range(names[name])]
                nodes.append(calls.call(name, *arguments))
            calls.check_form()

    def test_calls_that_were_made_before(self):
        diagrams = Diagrams(3)
        steps = [("variable", 2), ("variable", 0), ("differ", 2, 3), ("choose", 4, 2, 3), ("both", 2, 3),
                 ("either", 2, 3), ("negate", 4), ("variable", 1)]
        found = [getattr(diagrams, name)(*arguments) for name, *arguments in steps]
        state = state_of(diagrams)
        for k, (name, *arguments) in reversed(list(enumerate(steps))):
            self.assertEqual(getattr(diagrams, name)(*arguments), found[k])
            self.assertEqual(state_of(diagrams), state)

    def test_ten_variables(self):
        diagrams = Diagrams(10)
        odd, every, some = 0, 1, 0
        for i in range(10):
            x = diagrams.variable(i)
            odd = diagrams.differ(odd, x)
            every = diagrams.both(x, every)
            some = diagrams.either(some, x)
        for bits in ([0] * 10, [1] * 10, [1] + [0] * 9, [0] * 9 + [1], [0, 1] * 5):
            self.assertEqual(diagrams.value(odd, bits), sum(bits) & 1)
            self.assertEqual(diagrams.value(every, bits), min(bits))
            self.assertEqual(diagrams.value(some, bits), max(bits))
        self.assertEqual(diagrams.first_case(every), 1023)
        self.assertEqual(diagrams.first_case(some), 1)
        self.assertEqual(diagrams.first_case(diagrams.negate(odd)), 0)
        self.assertEqual(diagrams.first_case(diagrams.both(odd, diagrams.variable(9))), 512)

    def test_two_tables_share_nothing(self):
        one, other = Diagrams(2), Diagrams(2)
        one.both(one.variable(0), one.variable(1))
        self.assertEqual(other.size(), 2)
        with self.assertRaises(NoSuchThing):
            other.negate(2)


class FirstCaseTest(unittest.TestCase):
    def test_zero_and_one(self):
        for count in (0, 1, 10):
            self.assertIsNone(Diagrams(count).first_case(0))
            self.assertEqual(Diagrams(count).first_case(1), 0)

    def test_variables(self):
        diagrams = Diagrams(10)
        for i in range(10):
            x = diagrams.variable(i)
            self.assertEqual(diagrams.first_case(x), 2 ** i)
            self.assertEqual(diagrams.first_case(diagrams.negate(x)), 0)

    def test_all_functions_of_three_variables(self):
        for values in product((0, 1), repeat=8):
            diagrams = Diagrams(3)
            f = node_of(diagrams, values, 3)
            expected = values.index(1) if 1 in values else None
            self.assertEqual(diagrams.first_case(f), expected)


class ValueTest(unittest.TestCase):
    def test_wrong_bits(self):
        for count in (0, 1, 3):
            diagrams = Diagrams(count)
            nodes = [0, 1] + [diagrams.variable(i) for i in range(count)]
            for f in nodes:
                for wrong in samples.wrong_bits(count):
                    with self.subTest(f=f, wrong=wrong), self.assertRaises(InvalidValues):
                        diagrams.value(f, wrong)

    def test_the_node_is_checked_first(self):
        diagrams = Diagrams(2)
        for f in (-1, 2, 7):
            for bits in ([], [0, 1], [0, 2], [0, 0, 0]):
                with self.assertRaises(NoSuchThing):
                    diagrams.value(f, bits)

    def test_the_list_is_not_changed(self):
        diagrams = Diagrams(2)
        bits = [0, 1]
        self.assertEqual(diagrams.value(diagrams.variable(1), bits), 1)
        self.assertEqual(bits, [0, 1])


class NoSuchNodeTest(unittest.TestCase):
    def test_wrong_numbers(self):
        names = {"choose": 3, "negate": 1, "both": 2, "either": 2, "differ": 2, "first_case": 1, "node": 1}
        for makes in ([], [0], [0, 2], [1, 0, 2]):
            diagrams = Diagrams(3)
            for i in makes:
                diagrams.variable(i)
            state = state_of(diagrams)
            size = diagrams.size()
            for wrong in (-1, size, size + 1, -size, 1000):
                for name, count in names.items():
                    for place in range(count):
                        for others in product((0, 1, size - 1), repeat=count - 1):
                            numbers = list(others)
                            numbers.insert(place, wrong)
                            with self.subTest(name=name, numbers=numbers), self.assertRaises(NoSuchThing):
                                getattr(diagrams, name)(*numbers)
                with self.assertRaises(NoSuchThing):
                    diagrams.value(wrong, [0, 0, 0])
            self.assertEqual(state_of(diagrams), state)

    def test_a_wrong_number_does_not_change_the_table(self):
        # The other arguments would need a node that is not there yet.
        diagrams = Diagrams(2)
        a, b = diagrams.variable(0), diagrams.variable(1)
        for wrong in (-1, 4):
            for call in ((diagrams.differ, a, wrong), (diagrams.differ, wrong, b),
                         (diagrams.choose, a, b, wrong), (diagrams.choose, wrong, a, b),
                         (diagrams.choose, a, wrong, b)):
                with self.assertRaises(NoSuchThing):
                    call[0](*call[1:])
                self.assertEqual(diagrams.size(), 4)

    def test_nodes_without_a_tuple(self):
        for count in (0, 3):
            diagrams = Diagrams(count)
            for number in (0, 1):
                with self.assertRaises(NoSuchThing):
                    diagrams.node(number)
            self.assertEqual(diagrams.size(), 2)


if __name__ == "__main__":
    unittest.main()
