"""Rows: lists of digits, the least first, and the numbers that they write.

The routines work on whole numbers, which Python adds and multiplies much faster than a loop over digits could; what
they count follows from the sizes and the digits that change.
"""

from thirtybits.errors import InvalidBound
from thirtybits.wholes import is_between

# Longer rows are put together, and taken apart, by halves: digit by digit, each step would copy the whole number.
LONGEST_LOOP = 32


def top_digit(width):
    """The greatest digit of so many bits, BASE - 1."""
    return (1 << width) - 1


def check_row(machine, value, name):
    """Raise InvalidBound for what is no list of digits."""
    if not isinstance(value, list):
        raise InvalidBound(name)
    top = top_digit(machine.width)
    if not all([is_between(digit, 0, top) for digit in value]):
        raise InvalidBound(name)


def size_of(width, n):
    """How many digits of so many bits an integer has, without its sign."""
    return (n.bit_length() + width - 1) // width


def number_of(width, row):
    """The number that a row of digits of so many bits writes."""
    size = len(row)
    if size > LONGEST_LOOP:
        half = size // 2
        return number_of(width, row[:half]) + (number_of(width, row[half:]) << half * width)
    number = 0
    for digit in reversed(row):
        number = (number << width) + digit
    return number


def row_of(width, n, size):
    """The first digits, so many, of a number; those that it lacks are 0, or BASE - 1 if it is below 0."""
    if size > LONGEST_LOOP:
        half = size // 2
        return row_of(width, low_part(width, n, half), half) + row_of(width, n >> half * width, size - half)
    top = top_digit(width)
    row = []
    for place in range(size):
        row.append(n & top)
        n >>= width
    return row


def low_part(width, n, size):
    """The number of the first digits of n, so many."""
    return n & ((1 << size * width) - 1)


def last_difference(machine, a, b):
    """The last place at which two numbers of one size differ, -1 if there is none."""
    size = size_of(machine.width, a)
    place = size_of(machine.width, a ^ b) - 1
    # Equal digits are looked at down to place 0, as are those that differ just there.
    machine.step("looked", size - max(place, 0))
    return place
