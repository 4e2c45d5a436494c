"""Numbers joined bit by bit, where endlessly many bits 1 stand ahead of a negative one."""

from thirtybits.bigs import are_compact, big_of, check_one, check_two
from thirtybits.machines import check_machine
from thirtybits.rows import check_row, number_of, row_of, size_of
from thirtybits.sums import joined


def bit_and(machine, x, y):
    """The number with the bits that both x and y have."""
    check_two(machine, x, y)
    count_combining(machine, "and", x.value, y.value, x.value & y.value)
    return big_of(machine, x.value & y.value)


def bit_or(machine, x, y):
    """The number with the bits that x or y has."""
    check_two(machine, x, y)
    count_combining(machine, "or", x.value, y.value, x.value | y.value)
    return big_of(machine, x.value | y.value)


def bit_xor(machine, x, y):
    """The number with the bits that just one of x and y has."""
    check_two(machine, x, y)
    count_combining(machine, "xor", x.value, y.value, x.value ^ y.value)
    return big_of(machine, x.value ^ y.value)


def bit_not(machine, x):
    """-x - 1."""
    check_one(machine, x)
    if are_compact(machine, x.value, x.value):
        machine.step("short", 1)
        return big_of(machine, ~x.value)
    return big_of(machine, -joined(machine, x.value, 1, 1))


def complement(machine, digits):
    """The digits of BASE ** m less the number of m digits, and the last carry, 1 if all digits are 0."""
    check_machine(machine)
    check_row(machine, digits, "digits")
    size = len(digits)
    number = number_of(machine.width, digits)
    count_complement(machine, size)
    return row_of(machine.width, -number, size), 1 if number == 0 else 0


def count_complement(machine, size):
    """Count that a row of so many digits is complemented."""
    machine.enter("complement", size, 0)
    machine.step("complemented", size)


def count_combining(machine, word, x, y, result):
    """Count what joining the bits of two integers takes."""
    if are_compact(machine, x, y):
        machine.step("short", 1)
        return
    m = size_of(machine.width, x)
    n = size_of(machine.width, y)
    machine.enter(word, m, n)
    if x < 0:
        count_complement(machine, m)
    if y < 0:
        count_complement(machine, n)
    short_is_below = x < 0 if m < n else y < 0
    machine.step("combined", max(m, n) if word == "xor" and short_is_below else min(m, n))
    if result < 0:
        # With "and" and a result below 0 both are below 0, so that no place is left out; "xor" leaves out none at all.
        size = min(m, n) if word == "or" and short_is_below else max(m, n)
        # One more digit holds the sign while the row is complemented.
        count_complement(machine, size + 1)
