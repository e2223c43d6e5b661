"""Lists of bits, netlists and circuits that several tests use."""

from itertools import product

from gatesread.errors import InvalidValues


def bit_lists(count):
    """All lists of count bits."""
    return [list(bits) for bits in product((0, 1), repeat=count)]


def wrong_bits(count):
    """Lists that are not the bits of count things: too short, too long, a 2 or a -1 in them."""
    wrong = [[0] * (count + 1), [1] * (count + 1), [0] * (count + 7)]
    for length in range(count):
        wrong.append([0] * length)
    for place in range(count):
        for value in (2, -1):
            bits = [1] * count
            bits[place] = value
            wrong.append(bits)
    return wrong


def check_wrong_lists(test, functions, thing, input_count, state_count):
    """Check that functions of a thing and its bits refuse wrong inputs and wrong states."""
    inputs, states = [1] * input_count, [1] * state_count
    pairs = [(wrong, states) for wrong in wrong_bits(input_count)]
    pairs += [(inputs, wrong) for wrong in wrong_bits(state_count)]
    for function in functions:
        for pair in pairs:
            with test.subTest(function=function.__name__, thing=thing, pair=pair):
                with test.assertRaises(InvalidValues):
                    function(thing, *pair)


def check_lists_not_kept(test, function, thing, inputs, states):
    """Check that a function of a thing and its bits neither changes nor keeps a list or dict."""
    given = list(inputs), list(states)
    first = function(thing, *given)
    copy = first.copy()
    test.assertEqual(given, (inputs, states))
    for bits in given:
        bits.clear()
    test.assertEqual(first, copy)
    first.clear()
    test.assertEqual(function(thing, inputs, states), copy)


def latch_count(netlist):
    """The number of latches of a netlist."""
    return len([gate for gate in netlist[2] if gate[1] == "latch"])


def all_cases(netlist):
    """All pairs of the inputs' bits and the latches' states of a netlist."""
    return list(product(bit_lists(len(netlist[0])), bit_lists(latch_count(netlist))))


FULL_ADDER = (
    ("a", "b", "c"),
    ("sum", "carry"),
    (
        ("half", "xor", ("a", "b")),
        ("sum", "xor", ("half", "c")),
        ("one1", "and", ("a", "b")),
        ("two1", "and", ("half", "c")),
        ("carry", "or", ("one1", "two1")),
    ),
)

# Counts the clocks at which the input up is 1.
COUNTER = (
    ("up",),
    ("low", "high"),
    (
        ("low", "latch", ("flip",)),
        ("high", "latch", ("flop",)),
        ("flop", "xor", ("high", "both")),
        ("both", "and", ("low", "up")),
        ("flip", "xor", ("low", "up")),
    ),
)

# Two latches in a ring that exchange their states, and one that keeps its own.
SWAP = (
    (),
    ("p", "q", "r"),
    (("p", "latch", ("q",)), ("q", "latch", ("p",)), ("r", "latch", ("r",))),
)

# Circuits that no netlist gives.
EACH_KIND = (
    3,
    (
        ("tie1", (), 3),
        ("nand2", (2, 0), 4),
        ("nor3", (4, 1, 0), 5),
        ("not", (5,), 6),
        ("tie0", (), 7),
        ("nand3", (6, 3, 1), 8),
        ("nor2", (7, 8), 9),
    ),
    (9, 0, 5, 9),
    (),
)

# Latches behind other cells, of a later net, of themselves, and not in the netlist's order.
LATCHES = (
    1,
    (
        ("not", (0,), 1),
        ("latch", (5,), 2),
        ("nand2", (2, 1), 3),
        ("latch", (4,), 4),
        ("nor2", (4, 3), 5),
        ("latch", (0,), 6),
        ("latch", (2,), 7),
    ),
    (5, 6),
    (3, 0, 2, 1),
)

# Equal cells, cells that are not needed, nots of nots.
LOOSE = (
    2,
    (
        ("nand2", (0, 1), 2),
        ("nand2", (0, 1), 3),
        ("nand2", (1, 0), 4),
        ("not", (3,), 5),
        ("not", (5,), 6),
        ("tie0", (), 7),
        ("tie0", (), 8),
        ("latch", (6,), 9),
        ("latch", (6,), 10),
        ("nor3", (8, 10, 7), 11),
    ),
    (6, 1, 11),
    (1, 2),
)
