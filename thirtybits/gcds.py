"""Greatest common divisors by Lehmer's steps, and least common multiples."""

from thirtybits.bigs import Big, big_of, check_two, compared
from thirtybits.division import divided_down, rest_down
from thirtybits.errors import InvalidBound
from thirtybits.karatsuba import product_of
from thirtybits.machines import check_machine
from thirtybits.rows import size_of
from thirtybits.wholes import euclid

# Numbers of no more digits are divided at once.
PLAIN_SIZE = 2


def gcd(machine, x, y):
    """The greatest common divisor of x and y, 0 if both are 0."""
    check_two(machine, x, y)
    return big_of(machine, divisor_of(machine, x.value, y.value))


def lehmer_step(machine, x, y):
    """The quotients that a step takes, and the four numbers with which it makes its two sums of x and y."""
    check_two(machine, x, y)
    if x.value < 0 or len(x.row) <= PLAIN_SIZE:
        raise InvalidBound("x")
    if y.value < 0 or y.value > x.value:
        raise InvalidBound("y")
    return step_of(machine, x.value, y.value)


def lcm(machine, x, y):
    """The least common multiple of x and y, 0 if one of them is 0."""
    check_two(machine, x, y)
    return big_of(machine, multiple_of(machine, x.value, y.value))


def gcd_many(machine, values):
    """The greatest common divisor of a list of Bigs, 0 for an empty one."""
    check_many(machine, values)
    # Behind a 1, nothing changes any more.
    return big_of(machine, joined_by(machine, divisor_of, values, 0, 1))


def lcm_many(machine, values):
    """The least common multiple of a list of Bigs, 1 for an empty one."""
    check_many(machine, values)
    # Behind a 0, nothing changes any more.
    return big_of(machine, joined_by(machine, multiple_of, values, 1, 0))


def check_many(machine, values):
    """Raise InvalidBound for what is no machine, or no list of Bigs of its bits."""
    check_machine(machine)
    if not isinstance(values, list):
        raise InvalidBound("values")
    if not all([isinstance(item, Big) and item.width == machine.width for item in values]):
        raise InvalidBound("values")


def divisor_of(machine, x, y):
    """The greatest common divisor of two integers."""
    m = size_of(machine.width, x)
    n = size_of(machine.width, y)
    a, b = abs(x), abs(y)
    if m <= PLAIN_SIZE and n <= PLAIN_SIZE:
        return divisor_at_once(machine, a, b)
    machine.enter("gcd", m, n)
    if compared(machine, a, b) < 0:
        a, b = b, a
    while size_of(machine.width, a) > PLAIN_SIZE:
        if b == 0:
            return a
        a, b = reduced(machine, a, b)
    return divisor_at_once(machine, a, b)


def divisor_at_once(machine, a, b):
    """The greatest common divisor of two numbers of few digits (divided PLAINLY)."""
    machine.enter("euclid", size_of(machine.width, a), size_of(machine.width, b))
    machine.step("short", 1)
    divisor, steps = euclid(a, b)
    machine.step("quotient", steps)
    return divisor


def reduced(machine, a, b):
    """Two lesser numbers that have the same divisors in common as a and b, which is above 0 and not above a."""
    quotients, four = step_of(machine, a, b)
    if len(quotients) == 0:
        return b, rest_down(machine, a, b)
    m = size_of(machine.width, a)
    machine.enter("lehmer", m, size_of(machine.width, b))
    machine.step("product", 2 * m)
    p, q, r, s = four
    return p * a + q * b, r * a + s * b


def step_of(machine, a, b):
    """The quotients that are certain from the first bits of a and b alone, and the four numbers they lead to."""
    shift = a.bit_length() - 2 * machine.width
    x, y = a >> shift, b >> shift
    p, q, r, s = 1, 0, 0, 1
    quotients = []
    while y != r:
        machine.step("quotient", 1)
        quotient = (x + p - 1) // (y - r)
        if q + quotient * s > x - quotient * y:
            break
        quotients.append(quotient)
        x, y = y, x - quotient * y
        p, q, r, s = s, r, q + quotient * s, p + quotient * r
    if len(quotients) % 2 == 0:
        return quotients, (p, -q, -r, s)
    return quotients, (-q, p, s, -r)


def multiple_of(machine, x, y):
    """The least common multiple of two integers."""
    if x == 0 or y == 0:
        return 0
    quotient, rest = divided_down(machine, x, divisor_of(machine, x, y))
    return abs(product_of(machine, quotient, y))


def joined_by(machine, action, values, empty, last):
    """What an action makes of the first value and the second one, of this and the third one, and so on, up to last."""
    if len(values) == 0:
        return empty
    found = values[0].value
    for item in values[1:]:
        if found == last:
            break
        found = action(machine, found, item.value)
    return abs(found)
