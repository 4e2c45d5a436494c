"""Rows: lists or tuples of digits, the least first."""

from thirtybits.errors import InvalidBound
from thirtybits.wholes import is_between


def top_digit(machine):
    """The greatest digit, BASE - 1; a number & this is the number modulo BASE."""
    return (1 << machine.width) - 1


def check_row(machine, value, name):
    """Raise InvalidBound for what is no list of digits."""
    if not isinstance(value, list):
        raise InvalidBound(name)
    top = top_digit(machine)
    if not all([is_between(digit, 0, top) for digit in value]):
        raise InvalidBound(name)


def trimmed(row):
    """A row without the digits 0 at its end."""
    size = len(row)
    while size > 0 and row[size - 1] == 0:
        size -= 1
    return row[:size]


def row_of(machine, n):
    """The digits of an integer from 0 on."""
    top = top_digit(machine)
    row = []
    while n > 0:
        row.append(n & top)
        n >>= machine.width
    return row


def last_difference(machine, a, b):
    """The last place at which two rows of one size differ, -1 if there is none."""
    place = len(a) - 1
    while place >= 0 and a[place] == b[place]:
        place -= 1
    # Equal rows are looked at down to place 0, as are those that differ just there.
    machine.step("looked", len(a) - max(place, 0))
    return place
