"""Numbers as lists of bytes, the least byte first or last."""

from thirtybits.bigs import big_of, check_big, check_one
from thirtybits.errors import InvalidBound, TooGreat
from thirtybits.machines import check_machine
from thirtybits.rows import number_of, row_of, size_of
from thirtybits.wholes import is_between

LONGEST_ROW = 10000
BYTE = 8
GREATEST_BYTE = 255
# From this one on, the greatest byte of a signed list tells that its number is negative.
SIGN_BYTE = 128


def byte_length(x, *, signed=False):
    """How many bytes x takes at least."""
    check_big(x, "x")
    check_signed(signed)
    if x.value < 0 and not signed:
        raise TooGreat()
    return least_length(x.value, signed)


def to_bytes(machine, x, length=1, order="big", *, signed=False):
    """The list of so many bytes that holds x."""
    check_one(machine, x)
    if not is_between(length, 0, LONGEST_ROW):
        raise InvalidBound("length")
    check_order(order)
    check_signed(signed)
    if (x.value < 0 and not signed) or least_length(x.value, signed) > length:
        raise TooGreat()
    machine.enter("to bytes", len(x.row), length)
    if x.value < 0:
        machine.step("complemented", len(x.row))
    machine.step("shifted", size_of(BYTE, magnitude_of(x.value)))
    row = row_of(BYTE, x.value, length)
    return row if order == "little" else list(reversed(row))


def from_bytes(machine, row, order="big", *, signed=False):
    """The Big that a list of bytes holds."""
    check_machine(machine)
    if not isinstance(row, list) or len(row) > LONGEST_ROW:
        raise InvalidBound("row")
    if not all([is_between(part, 0, GREATEST_BYTE) for part in row]):
        raise InvalidBound("row")
    check_order(order)
    check_signed(signed)
    size = len(row)
    if size == 0:
        return big_of(machine, 0)
    number = number_of(BYTE, row if order == "little" else list(reversed(row)))
    if signed and number >> (size - 1) * BYTE >= SIGN_BYTE:
        number -= 1 << size * BYTE
    machine.enter("from bytes", size, 0)
    count_reading(machine, number, size)
    return big_of(machine, number)


def check_order(order):
    """Raise InvalidBound for what is no order of bytes."""
    if not isinstance(order, str) or order not in ("little", "big"):
        raise InvalidBound("order")


def check_signed(signed):
    """Raise InvalidBound for what is neither True nor False."""
    if not isinstance(signed, bool):
        raise InvalidBound("signed")


def magnitude_of(value):
    """The number whose bits an integer has behind its sign: -1 has none."""
    return -value - 1 if value < 0 else value


def least_length(value, signed):
    """How many bytes an integer takes at least, one bit more for its sign if it has one."""
    if value == 0:
        return 0
    bits = magnitude_of(value).bit_length() + (1 if signed else 0)
    return (bits + BYTE - 1) // BYTE


def count_reading(machine, number, size):
    """Count what reading a number from so many bytes takes."""
    # Bytes ahead that are just filled up, as the sign asks, are looked at, and then the first other one.
    kept = size_of(BYTE, magnitude_of(number))
    machine.step("looked", min(size - kept + 1, size))
    if number < 0:
        kept = min(kept + 1, size)
        machine.step("complemented", kept)
    machine.step("shifted", kept)
