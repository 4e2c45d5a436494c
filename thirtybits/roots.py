"""Square roots: estimates of ever more bits, each made of the one before it by one division."""

from thirtybits.bigs import big_of, check_big, check_one, compared
from thirtybits.division import divided_down
from thirtybits.errors import InvalidBound
from thirtybits.karatsuba import square_of
from thirtybits.machines import Machine
from thirtybits.rows import size_of
from thirtybits.shifts import shifted_left, shifted_right
from thirtybits.sums import joined
from thirtybits.wholes import is_between

# Roots of no more bits behind their first one are told at once.
SHORT_ROOT = 31
FIRST_ROW = 64
LAST_ROW = 255


def isqrt(machine, x):
    """The greatest integer whose square is not greater than x."""
    check_one(machine, x)
    check_not_negative(x)
    return big_of(machine, root_of(machine, x.value))


def root_estimates(x):
    """The estimates of the root of x, the first one and those behind each round; none for an x below 2 ** 64."""
    check_big(x, "x")
    check_not_negative(x)
    if half_length(x.value) <= SHORT_ROOT:
        return []
    # What the rounds count is not asked for here: it goes to a machine of its own.
    return estimates_of(Machine(x.width), x.value)


def first_root(n):
    """An estimate of the root of an integer from 2 ** 62 to 2 ** 64 - 1."""
    if not is_between(n, 2 ** 62, 2 ** 64 - 1):
        raise InvalidBound("n")
    return estimated(n)


def root_table():
    """The roots with which the first estimates begin, one for each row of the first eight bits."""
    return [table_root(row) for row in range(FIRST_ROW, LAST_ROW + 1)]


def check_not_negative(x):
    """Raise InvalidBound for a Big below 0."""
    if x.value < 0:
        raise InvalidBound("x")


def half_length(x):
    """How many bits the root of a number above 0 has behind its first one."""
    return (x.bit_length() - 1) // 2


def root_of(machine, x):
    """The root of a number from 0 on, rounded down."""
    if x == 0:
        return 0
    bits = half_length(x)
    if bits <= SHORT_ROOT:
        machine.step("short", 1)
        return small_root(x)
    machine.enter("root", size_of(machine.width, x), bits)
    found = estimates_of(machine, x)[-1]
    if compared(machine, x, square_of(machine, found)) < 0:
        found = joined(machine, found, 1, -1)
    return found


def small_root(x):
    """The root of a number above 0, rounded down, uncounted."""
    found = 1 << (half_length(x) + 1)
    # Each round comes nearer from above, until there is nothing below that is still too great.
    while found * found > x:
        found = (found + x // found) // 2
    return found


def estimates_of(machine, x):
    """The estimates of the root of a number of 65 bits or more (the first one, and the ROUNDS)."""
    bits = half_length(x)
    scale = bits.bit_length() - 5
    exact = bits >> scale
    found = estimated(shifted_right(machine, x, 2 * bits - 62)) >> (31 - exact)
    estimates = [found]
    for step in reversed(range(scale)):
        before, exact = exact, bits >> step
        above = shifted_right(machine, x, 2 * bits - exact - before + 1)
        quotient, rest = divided_down(machine, above, found)
        found = joined(machine, shifted_left(machine, found, exact - 1 - before), quotient, 1)
        estimates.append(found)
    return estimates


def estimated(n):
    """An estimate of the root of an integer from 2 ** 62 to 2 ** 64 - 1."""
    found = table_root(n >> 56)
    found = (found << 7) + (n >> 41) // found
    return (found << 15) + (n >> 17) // found


def table_root(row):
    """The integer nearest to the root of a number in the middle of a row, of eight bits at most."""
    middle = 256 * row + 128
    found = small_root(middle)
    # The number in the middle between two squares, a half and a quarter above one, is no integer.
    if middle - found * found > found:
        found += 1
    return min(found, LAST_ROW)
