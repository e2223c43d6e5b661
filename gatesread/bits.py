"""Checking lists of bits (point 2)."""

from gatesread.errors import InvalidValues


def check_bits(values, count):
    """Raise InvalidValues unless values is a list of count bits."""
    if len(values) != count:
        raise InvalidValues(f"{len(values)} values instead of {count}")
    for value in values:
        if value not in (0, 1):
            raise InvalidValues(f"{value!r} is not a bit")
