"""Bigs: integers in their normal form, a sign and a row of digits."""

from thirtybits.errors import InvalidBound
from thirtybits.machines import check_machine
from thirtybits.rows import check_row, last_difference, number_of, row_of, size_of
from thirtybits.wholes import is_between, is_integer

HASH_MODULUS = 2 ** 61 - 1


class Big:
    """An integer: its sign and its digits, none of them a 0 at the end. It never changes."""

    def __init__(self, width, value, row):
        self.width = width
        self.side = order_of(value, 0)
        self.row = tuple(row)
        # What sign and digits write is kept beside them, so that no routine has to put it together again.
        self.value = value

    def __eq__(self, other):
        return isinstance(other, Big) and self.width == other.width and self.value == other.value

    def sign(self):
        """-1, 0 or 1."""
        return self.side

    def digits(self):
        """The digits, the least first."""
        return list(self.row)

    def bits(self):
        """The bits of a digit."""
        return self.width


def check_big(value, name):
    """Raise InvalidBound for what is no Big."""
    if not isinstance(value, Big):
        raise InvalidBound(name)


def check_one(machine, x):
    """Raise InvalidBound for what is no machine, or no Big x of its bits."""
    check_machine(machine)
    check_fit(machine, x, "x")


def check_two(machine, x, y):
    """Raise InvalidBound for what is no machine, or no Bigs x and y of its bits."""
    check_one(machine, x)
    check_fit(machine, y, "y")


def check_fit(machine, value, name):
    """Raise InvalidBound for what is no Big of the bits of a machine."""
    check_big(value, name)
    if value.width != machine.width:
        raise InvalidBound(name)


def big_of(machine, value):
    """The Big of an integer."""
    return Big(machine.width, value, row_of(machine.width, abs(value), size_of(machine.width, value)))


def are_compact(machine, x, y):
    """Whether two integers have at most one digit each."""
    return x.bit_length() <= machine.width and y.bit_length() <= machine.width


def order_of(a, b):
    """-1, 0 or 1 if an integer is less than another one, equal to it, or greater."""
    if a < b:
        return -1
    return 0 if a == b else 1


def compared(machine, x, y):
    """-1, 0 or 1 if an integer is less than another one, equal to it, or greater; this is counted."""
    if are_compact(machine, x, y):
        machine.step("short", 1)
    elif (x < 0) == (y < 0) and size_of(machine.width, x) == size_of(machine.width, y):
        last_difference(machine, abs(x), abs(y))
    return order_of(x, y)


def big(machine, n):
    """The Big of an integer n."""
    check_machine(machine)
    if not is_integer(n):
        raise InvalidBound("n")
    return big_of(machine, n)


def normal(machine, sign, digits):
    """The Big of a sign and a list of digits, which may have digits 0 at its end."""
    check_machine(machine)
    if not is_between(sign, -1, 1):
        raise InvalidBound("sign")
    check_row(machine, digits, "digits")
    number = number_of(machine.width, digits)
    if sign == 0 and number > 0:
        raise InvalidBound("sign")
    return big_of(machine, sign * number)


def plain(x):
    """The integer of a Big."""
    check_big(x, "x")
    return x.value


def compare(machine, x, y):
    """-1, 0 or 1 if x is less than y, equal to it, or greater."""
    check_two(machine, x, y)
    return compared(machine, x.value, y.value)


def bit_length(x):
    """How many bits the value without its sign has."""
    check_big(x, "x")
    return x.value.bit_length()


def bit_count(x):
    """How many bits of the value without its sign are 1."""
    check_big(x, "x")
    return sum([ones_of(digit) for digit in x.row])


def ones_of(digit):
    """How many bits of a digit are 1."""
    ones = 0
    while digit > 0:
        # This clears the lowest bit 1.
        digit &= digit - 1
        ones += 1
    return ones


def hash_of(x):
    """The hash: the value modulo 2 ** 61 - 1, with its sign, and -2 in the place of -1."""
    check_big(x, "x")
    found = x.side * (abs(x.value) % HASH_MODULUS)
    return -2 if found == -1 else found


def negative(x):
    """The Big of the value with the other sign."""
    check_big(x, "x")
    return Big(x.width, -x.value, x.row)


def absolute(x):
    """The Big of the value without its sign."""
    check_big(x, "x")
    return Big(x.width, abs(x.value), x.row)
