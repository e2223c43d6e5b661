"""The cases that show flaws, and the tests of a circuit (points 21 and 22)."""

from gatesread.circuits import net_count
from gatesread.errors import TooLarge
from gatesread.flaws import case_count, end_values, shows

MOST_CASES = 64


def first_case(circuit, flaw):
    """Return the least case that shows a flaw, None if it is hidden."""
    check_size(circuit)
    for case in range(case_count(circuit)):
        if shows(circuit, flaw, case):
            return case
    return None


def hidden_flaws(circuit):
    """Return the ascending list of the hidden flaws."""
    check_size(circuit)
    seen = {}
    for case in range(case_count(circuit)):
        for flaw in shown_flaws(circuit, case):
            seen[flaw] = True
    return [flaw for flaw in all_flaws(circuit) if flaw not in seen]


def make_tests(circuit):
    """Return the list of the tests of a circuit."""
    check_size(circuit)
    new = [shown_flaws(circuit, case) for case in range(case_count(circuit))]
    tests = []
    best = first_longest(new)
    while new[best]:
        tests.append(best)
        seen = {flaw: True for flaw in new[best]}
        new = [[flaw for flaw in flaws if flaw not in seen] for flaws in new]
        best = first_longest(new)
    return tests


def check_size(circuit):
    """Raise TooLarge if a circuit has too many cases."""
    if case_count(circuit) > MOST_CASES:
        raise TooLarge(f"{case_count(circuit)} cases")


def all_flaws(circuit):
    """Return the ascending list of all flaws."""
    return [(net, value) for net in range(net_count(circuit)) for value in (0, 1)]


def shown_flaws(circuit, case):
    """Return the ascending list of the flaws that a case shows."""
    right = end_values(circuit, case, {})
    return [(net, value) for net, value in all_flaws(circuit)
            if end_values(circuit, case, {net: value}) != right]


def first_longest(rows):
    """Return the index of the first one of the longest lists."""
    lengths = [len(row) for row in rows]
    return lengths.index(max(lengths))
