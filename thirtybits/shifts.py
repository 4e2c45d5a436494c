"""Shifts of numbers, and of rows by less than a digit."""

from thirtybits.bigs import big_of, check_one
from thirtybits.errors import InvalidBound, TooGreat
from thirtybits.machines import check_machine
from thirtybits.rows import check_row, number_of, row_of, size_of
from thirtybits.wholes import is_between, is_integer

GREATEST_SHIFT = 100000


def shift_left(machine, x, count):
    """x times 2 ** count."""
    check_shift(machine, x, count)
    if x.value != 0 and count > GREATEST_SHIFT:
        raise TooGreat()
    return big_of(machine, shifted_left(machine, x.value, count))


def shift_right(machine, x, count):
    """x divided by 2 ** count, rounded down."""
    check_shift(machine, x, count)
    return big_of(machine, shifted_right(machine, x.value, count))


def shift_row_up(machine, digits, count):
    """The digits of a row times 2 ** count, as many as it has, and what is left over."""
    check_row_shift(machine, digits, count)
    size = len(digits)
    number = lifted(machine, number_of(machine.width, digits), size, count)
    return row_of(machine.width, number, size), number >> size * machine.width


def shift_row_down(machine, digits, count):
    """The digits of a row divided by 2 ** count, as many as it has, and the remainder."""
    check_row_shift(machine, digits, count)
    size = len(digits)
    number = number_of(machine.width, digits)
    return row_of(machine.width, lowered(machine, number, size, count), size), number & ((1 << count) - 1)


def check_shift(machine, x, count):
    """Raise InvalidBound for what is no machine, no Big x of its bits, or no count from 0 on."""
    check_one(machine, x)
    if not is_integer(count) or count < 0:
        raise InvalidBound("count")


def check_row_shift(machine, digits, count):
    """Raise InvalidBound for what is no machine, no list of digits, or no count below the bits of a digit."""
    check_machine(machine)
    check_row(machine, digits, "digits")
    if not is_between(count, 0, machine.width - 1):
        raise InvalidBound("count")


def shifted_left(machine, x, count):
    """An integer times 2 ** count."""
    if x == 0:
        return 0
    size = size_of(machine.width, x)
    if size == 1 and count < machine.width:
        machine.step("short", 1)
    else:
        machine.enter("left", size, count)
        machine.step("shifted", size)
    return x << count


def shifted_right(machine, x, count):
    """An integer divided by 2 ** count, rounded down."""
    size = size_of(machine.width, x)
    if size == 0 or (size > 1 and x < 0 and count == 0):
        return x
    if size == 1:
        machine.step("short", 1)
    else:
        machine.enter("right", size, count)
        count_right_steps(machine, x < 0, size, count)
    # Behind all bits of x, nothing changes any more, however great the count is.
    return x >> min(count, x.bit_length())


def count_right_steps(machine, below, size, count):
    """Count what a right shift of so many digits goes through; below tells whether their number is negative."""
    first = count // machine.width
    if below and count == first * machine.width:
        # The digit ahead is shifted by all of its bits, so that what rounding carries out of it is not lost.
        first -= 1
    if first >= size:
        return
    if below:
        machine.step("looked", first)
    machine.step("shifted", size - 1 - first)


def lifted(machine, number, size, count):
    """A number of so many digits times 2 ** count, a count below the bits of a digit."""
    machine.enter("lift", size, count)
    machine.step("shifted", size)
    return number << count


def lowered(machine, number, size, count):
    """A number of so many digits divided by 2 ** count, a count below the bits of a digit, rounded down."""
    machine.enter("lower", size, count)
    machine.step("shifted", size)
    return number >> count
