"""Lists of bits, netlists and circuits that several tests use."""

from itertools import product

from gatesread.errors import InvalidPlacement, InvalidValues
from gatesread.gates import input_counts

INPUT_COUNTS = {"not": 1, "nand2": 2, "nand3": 3, "nor2": 2, "nor3": 3, "latch": 1, "tie0": 0, "tie1": 0}
LOGIC_KINDS = ("not", "and", "or", "nand", "nor", "xor", "mux", "zero", "one")


def bit_lists(count):
    """All lists of count bits."""
    return [list(bits) for bits in product((0, 1), repeat=count)]


def wrong_bits(count):
    """Lists that are not the bits of count things: too short, too long, a 2 or a -1 in them."""
    wrong = [[0] * (count + 1), [1] * (count + 1), [0] * (count + 7)]
    for length in range(count):
        wrong.append([0] * length)
    for place in range(count):
        for value in (2, -1):
            bits = [1] * count
            bits[place] = value
            wrong.append(bits)
    return wrong


def check_wrong_lists(test, functions, thing, input_count, state_count):
    """Check that functions of a thing and its bits refuse wrong inputs and wrong states."""
    inputs, states = [1] * input_count, [1] * state_count
    pairs = [(wrong, states) for wrong in wrong_bits(input_count)]
    pairs += [(inputs, wrong) for wrong in wrong_bits(state_count)]
    for function in functions:
        for pair in pairs:
            with test.subTest(function=function.__name__, thing=thing, pair=pair):
                with test.assertRaises(InvalidValues):
                    function(thing, *pair)


def check_lists_not_kept(test, function, thing, inputs, states):
    """Check that a function of a thing and its bits neither changes nor keeps a list or dict."""
    given = list(inputs), list(states)
    first = function(thing, *given)
    copy = first.copy()
    test.assertEqual(given, (inputs, states))
    for bits in given:
        bits.clear()
    test.assertEqual(first, copy)
    first.clear()
    test.assertEqual(function(thing, inputs, states), copy)


class Numbers:
    """Numbers that look arbitrary and are the same in each run."""

    def __init__(self, seed):
        self.last = seed

    def below(self, bound):
        self.last = (self.last * 1103515245 + 12345) % 2 ** 31
        return (self.last >> 12) % bound


def arbitrary_circuit(seed, input_count, cell_count, latch_count=0):
    """A circuit with cells of all kinds, also equal ones and some that are not needed."""
    numbers = Numbers(seed)
    kinds = ["latch"] * latch_count
    while len(kinds) < cell_count:
        logic = [kind for kind in INPUT_COUNTS if kind != "latch"]
        kinds.insert(numbers.below(len(kinds) + 1), logic[numbers.below(len(logic))])
    total = input_count + cell_count
    cells = []
    for k, kind in enumerate(kinds):
        output = input_count + k
        nets = list(range(total if kind == "latch" else output))
        if len(nets) < INPUT_COUNTS[kind]:
            kind = "tie1"
        count = INPUT_COUNTS[kind]
        sources = tuple(nets.pop(numbers.below(len(nets))) for _ in range(count))
        cells.append((kind, sources, output))
    outputs = tuple(numbers.below(total) for _ in range(1 + numbers.below(6)))
    return input_count, tuple(cells), outputs, tuple(range(latch_count))


def arbitrary_placement(seed, circuit, row_count):
    """A placement of a circuit, often with empty rows if the circuit has few cells."""
    numbers = Numbers(seed)
    placement = [[] for _ in range(row_count)]
    for cell in range(len(circuit[1])):
        row = placement[numbers.below(row_count)]
        row.insert(numbers.below(len(row) + 1), cell)
    return placement


def some_placements():
    """Pairs of a circuit and a placement of it: the samples below, and arbitrary ones."""
    circuits = list(PLACED_CIRCUITS)
    for seed in range(12):
        circuits.append(arbitrary_circuit(seed, seed % 4 + 1, seed, min(seed // 2, 4)))
    pairs = []
    for seed, circuit in enumerate(circuits):
        for row_count in range(1, 7):
            pairs.append((circuit, arbitrary_placement(seed, circuit, row_count)))
    return pairs


def placed_pins(circuit, placement):
    """A dict from each net to the places (row, column) of its pins, without feeds."""
    pins = {net: [] for net in range(circuit[0] + len(circuit[1]))}
    for i in range(circuit[0]):
        pins[i].append((-1, 2 * i + 1))
    for row, cells in enumerate(placement):
        column = (row + 1) % 2
        for cell in cells:
            kind, sources, output = circuit[1][cell]
            for i, net in enumerate(sources + (output,)):
                pins[net].append((row, column + 2 * i + 1))
            column += 2 * INPUT_COUNTS[kind] + 2
    for i, net in enumerate(circuit[2]):
        pins[net].append((len(placement), (len(placement) + 1) % 2 + 2 * i + 1))
    return pins


def wrong_placements(count):
    """Lists of rows that are no placement of a circuit with count cells, at least two."""
    cells = list(range(count))
    return [
        [],
        [cells] + [[]] * 6,
        [[]] * 7,
        [[]],
        [cells[1:]],
        [cells[:-1], []],
        [cells + [0]],
        [cells, cells[-1:]],
        [cells, cells],
        [cells + [-1]],
        [[-1] + cells[1:]],
        [cells[:-1], [-1]],
        [cells, [count]],
        [cells[:-1] + [count]],
        [cells[1:] + cells[1:2]],
    ]


def check_wrong_placements(test, function, circuit):
    """Check that a function of a placement refuses what is no placement of a circuit."""
    for wrong in wrong_placements(len(circuit[1])):
        with test.subTest(circuit=circuit, wrong=wrong):
            copy = [list(row) for row in wrong]
            with test.assertRaises(InvalidPlacement):
                function(wrong)
            test.assertEqual(wrong, copy)


def arbitrary_netlist(seed):
    """A netlist with 2 inputs, 2 latches and 8 other gates, some ahead of their inputs."""
    numbers = Numbers(seed)
    known = ["a", "b", "l", "k"]
    gates = []
    for k in range(8):
        kind = LOGIC_KINDS[numbers.below(len(LOGIC_KINDS))]
        least, greatest = input_counts(kind)
        count = least + numbers.below(greatest - least + 1)
        sources = tuple(known[numbers.below(len(known))] for _ in range(count))
        gates.insert(numbers.below(len(gates) + 1), (f"g{k}", kind, sources))
        known.append(f"g{k}")
    for name in ("l", "k"):
        source = known[numbers.below(len(known))]
        gates.insert(numbers.below(len(gates) + 1), (name, "latch", (source,)))
    outputs = tuple(known[numbers.below(len(known))] for _ in range(1 + numbers.below(3)))
    return ("a", "b"), outputs, tuple(gates)


def too_large_netlist():
    """A netlist with two inputs that needs more than 40 cells: 11 xors of 4 cells each."""
    names = ["a", "b"] + [f"x{k}" for k in range(11)]
    gates = [(names[k], "xor", (names[k - 2], names[k - 1])) for k in range(2, len(names))]
    return ("a", "b"), (names[-1],), tuple(gates)


def latch_count(netlist):
    """The number of latches of a netlist."""
    return len([gate for gate in netlist[2] if gate[1] == "latch"])


def all_cases(netlist):
    """All pairs of the inputs' bits and the latches' states of a netlist."""
    return list(product(bit_lists(len(netlist[0])), bit_lists(latch_count(netlist))))


FULL_ADDER = (
    ("a", "b", "c"),
    ("sum", "carry"),
    (
        ("half", "xor", ("a", "b")),
        ("sum", "xor", ("half", "c")),
        ("one1", "and", ("a", "b")),
        ("two1", "and", ("half", "c")),
        ("carry", "or", ("one1", "two1")),
    ),
)

# Counts the clocks at which the input up is 1.
COUNTER = (
    ("up",),
    ("low", "high"),
    (
        ("low", "latch", ("flip",)),
        ("high", "latch", ("flop",)),
        ("flop", "xor", ("high", "both")),
        ("both", "and", ("low", "up")),
        ("flip", "xor", ("low", "up")),
    ),
)

# Two latches in a ring that exchange their states, and one that keeps its own.
SWAP = (
    (),
    ("p", "q", "r"),
    (("p", "latch", ("q",)), ("q", "latch", ("p",)), ("r", "latch", ("r",))),
)

# Circuits that no netlist gives.
EACH_KIND = (
    3,
    (
        ("tie1", (), 3),
        ("nand2", (2, 0), 4),
        ("nor3", (4, 1, 0), 5),
        ("not", (5,), 6),
        ("tie0", (), 7),
        ("nand3", (6, 3, 1), 8),
        ("nor2", (7, 8), 9),
    ),
    (9, 0, 5, 9),
    (),
)

# Latches behind other cells, of a later net, of themselves, and not in the netlist's order.
LATCHES = (
    1,
    (
        ("not", (0,), 1),
        ("latch", (5,), 2),
        ("nand2", (2, 1), 3),
        ("latch", (4,), 4),
        ("nor2", (4, 3), 5),
        ("latch", (0,), 6),
        ("latch", (2,), 7),
    ),
    (5, 6),
    (3, 0, 2, 1),
)

# Equal cells, cells that are not needed, nots of nots.
LOOSE = (
    2,
    (
        ("nand2", (0, 1), 2),
        ("nand2", (0, 1), 3),
        ("nand2", (1, 0), 4),
        ("not", (3,), 5),
        ("not", (5,), 6),
        ("tie0", (), 7),
        ("tie0", (), 8),
        ("latch", (6,), 9),
        ("latch", (6,), 10),
        ("nor3", (8, 10, 7), 11),
    ),
    (6, 1, 11),
    (1, 2),
)

# Nothing but pads.
NO_CELLS = (2, (), (1, 0, 1), ())

# No input, and a latch that holds its own state.
NO_INPUTS = (
    0,
    (("latch", (0,), 0), ("tie1", (), 1), ("nor2", (1, 0), 2)),
    (2, 2, 0),
    (1,),
)

PLACED_CIRCUITS = (EACH_KIND, LATCHES, LOOSE, NO_CELLS, NO_INPUTS)


def rectangles_of(text):
    """The rectangles that are told by lines of layer, left, bottom, right and top."""
    rectangles = []
    for line in text.strip().split("\n"):
        layer, *sides = line.split()
        rectangles.append((layer, *[int(side) for side in sides]))
    return rectangles
