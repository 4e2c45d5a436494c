"""Bigs: integers in their normal form, a sign and a row of digits."""

from thirtybits.errors import InvalidBound
from thirtybits.machines import check_machine
from thirtybits.rows import check_row, last_difference, row_of, trimmed
from thirtybits.wholes import is_between, is_integer

HASH_MODULUS = 2 ** 61 - 1


class Big:
    """An integer: its sign and its digits, none of them a 0 at the end. It never changes."""

    def __init__(self, width, side, row):
        self.width = width
        self.side = side
        self.row = tuple(row)

    def __eq__(self, other):
        return (
            isinstance(other, Big)
            and self.width == other.width
            and self.side == other.side
            and self.row == other.row
        )

    def sign(self):
        """-1, 0 or 1."""
        return self.side

    def digits(self):
        """The digits, the least first."""
        return list(self.row)

    def bits(self):
        """The bits of a digit."""
        return self.width


def check_big(value, name):
    """Raise InvalidBound for what is no Big."""
    if not isinstance(value, Big):
        raise InvalidBound(name)


def check_one(machine, x):
    """Raise InvalidBound for what is no machine, or no Big x of its bits."""
    check_machine(machine)
    check_fit(machine, x, "x")


def check_two(machine, x, y):
    """Raise InvalidBound for what is no machine, or no Bigs x and y of its bits."""
    check_one(machine, x)
    check_fit(machine, y, "y")


def check_fit(machine, value, name):
    """Raise InvalidBound for what is no Big of the bits of a machine."""
    check_big(value, name)
    if value.width != machine.width:
        raise InvalidBound(name)


def big_of_row(machine, sign, row):
    """The Big of a sign and a row, which may have digits 0 at its end."""
    kept = trimmed(row)
    if len(kept) == 0:
        sign = 0
    return Big(machine.width, sign, kept)


def big_of_integer(machine, n):
    """The Big of an integer."""
    sign = -1 if n < 0 else 1
    return big_of_row(machine, sign, row_of(machine, abs(n)))


def is_compact(x):
    """Whether a Big has at most one digit."""
    return len(x.row) <= 1


def compact_value(x):
    """The integer of a compact Big."""
    return x.side * sum(x.row)


def order_of(a, b):
    """-1, 0 or 1 if an integer is less than another one, equal to it, or greater."""
    if a < b:
        return -1
    return 0 if a == b else 1


def big(machine, n):
    """The Big of an integer n."""
    check_machine(machine)
    if not is_integer(n):
        raise InvalidBound("n")
    return big_of_integer(machine, n)


def normal(machine, sign, digits):
    """The Big of a sign and a list of digits, which may have digits 0 at its end."""
    check_machine(machine)
    if not is_between(sign, -1, 1):
        raise InvalidBound("sign")
    check_row(machine, digits, "digits")
    if sign == 0 and len(trimmed(digits)) > 0:
        raise InvalidBound("sign")
    return big_of_row(machine, sign, digits)


def plain(x):
    """The integer of a Big."""
    check_big(x, "x")
    value = 0
    for digit in reversed(x.row):
        value = (value << x.width) + digit
    return x.side * value


def compare(machine, x, y):
    """-1, 0 or 1 if x is less than y, equal to it, or greater."""
    check_two(machine, x, y)
    if is_compact(x) and is_compact(y):
        machine.step("short", 1)
        return order_of(compact_value(x), compact_value(y))
    x_reach = x.side * len(x.row)
    y_reach = y.side * len(y.row)
    if x_reach != y_reach:
        return order_of(x_reach, y_reach)
    place = last_difference(machine, x.row, y.row)
    if place < 0:
        return 0
    return x.side * order_of(x.row[place], y.row[place])


def bit_length(x):
    """How many bits the value without its sign has."""
    check_big(x, "x")
    if len(x.row) == 0:
        return 0
    return (len(x.row) - 1) * x.width + x.row[-1].bit_length()


def bit_count(x):
    """How many bits of the value without its sign are 1."""
    check_big(x, "x")
    return sum([ones_of(digit) for digit in x.row])


def ones_of(digit):
    """How many bits of a digit are 1."""
    ones = 0
    while digit > 0:
        # This clears the lowest bit 1.
        digit &= digit - 1
        ones += 1
    return ones


def hash_of(x):
    """The hash: the value modulo 2 ** 61 - 1, with its sign, and -2 in the place of -1."""
    check_big(x, "x")
    rest = 0
    for digit in reversed(x.row):
        rest = ((rest << x.width) + digit) % HASH_MODULUS
    found = x.side * rest
    return -2 if found == -1 else found


def negative(x):
    """The Big of the value with the other sign."""
    check_big(x, "x")
    return Big(x.width, -x.side, x.row)


def absolute(x):
    """The Big of the value without its sign."""
    check_big(x, "x")
    return Big(x.width, abs(x.side), x.row)
