"""Powers, with and without a modulus, and the rows of bits by which their exponents are gone through."""

from thirtybits.bigs import big_of, check_fit, check_two, compared
from thirtybits.division import divided_down, rest_down
from thirtybits.errors import InvalidBound, TooGreat, ZeroDivisor
from thirtybits.karatsuba import product_of, square_of
from thirtybits.machines import check_machine
from thirtybits.rows import size_of
from thirtybits.sums import joined
from thirtybits.wholes import euclid, is_between, is_integer

LONGEST_EXPONENT = 4000
LONGEST_POWER = 100000
# For the exponents from 0 to 3: whether the power begins as x, and its steps.
FEW = ((0, ()), (0, (1,)), (1, (0,)), (1, (0, 1)))
# Exponents whose digits have no more bits than this go bit by bit.
LONGEST_BINARY = 60
WINDOW = 5
WIDEST = 12


def power(machine, x, y, *, modulus=None):
    """x ** y, or its rest by a modulus."""
    check_two(machine, x, y)
    if modulus is None:
        check_power(x.value, y.value)
        return big_of(machine, powered(machine, x.value, y.value, 0))
    check_fit(machine, modulus, "modulus")
    check_power_by(x.value, y.value, modulus.value)
    return big_of(machine, powered(machine, x.value, y.value, modulus.value))


def power_steps(machine, y):
    """Whether the power begins as x (1) or as 1 (0), and its steps: 0 for a square, k for a product with x ** k."""
    check_machine(machine)
    check_fit(machine, y, "y")
    if y.value < 0:
        raise InvalidBound("y")
    check_exponent(y.value)
    word, start, steps = way_of(machine.width, y.value)
    return start, steps


def inverse(machine, x, y):
    """A number whose product with x leaves the rest 1 by y."""
    check_two(machine, x, y)
    if y.value < 1:
        raise InvalidBound("y")
    check_prime_to(x.value, y.value)
    return big_of(machine, inverted(machine, x.value, y.value))


def window_rows(y, width):
    """The rows of bits of y, up to width bits each: the number that each writes, and the number of bits behind it."""
    check_row_number(y)
    if not is_between(width, 1, WIDEST):
        raise InvalidBound("width")
    return rows_of(y, width)


def best_width(y):
    """The least width for which the rows of y take the fewest squares and products."""
    check_row_number(y)
    costs = [cost_of(y, width) for width in range(1, WIDEST + 1)]
    return 1 + costs.index(min(costs))


def check_power(x, y):
    """Raise an error for integers x and y whose power is not made."""
    if y < 0:
        raise InvalidBound("y")
    check_exponent(y)
    if abs(x) > 1 and x.bit_length() * y > LONGEST_POWER:
        raise TooGreat()


def check_power_by(x, y, modulus):
    """Raise an error for integers x and y whose power by a modulus is not made."""
    if modulus == 0:
        raise ZeroDivisor()
    if abs(modulus) == 1:
        return
    if y < 0:
        check_prime_to(x, modulus)
    check_exponent(y)


def check_exponent(y):
    """Raise TooGreat for an exponent of too many bits."""
    if y.bit_length() > LONGEST_EXPONENT:
        raise TooGreat()


def check_prime_to(x, y):
    """Raise InvalidBound for an integer x that has a divisor above 1 in common with y."""
    divisor, steps = euclid(abs(x), abs(y))
    if divisor > 1:
        raise InvalidBound("x")


def check_row_number(y):
    """Raise InvalidBound for what is no integer from 1 on, or one of too many bits."""
    if not is_integer(y) or y < 1 or y.bit_length() > LONGEST_EXPONENT:
        raise InvalidBound("y")


def powered(machine, x, y, modulus):
    """x ** y of two integers by a modulus, which is 0 if there is none."""
    if abs(modulus) == 1:
        return 0
    whole = abs(modulus)
    if y < 0:
        x = inverted(machine, x, whole)
        y = -y
    if whole > 0 and (x < 0 or size_of(machine.width, x) > size_of(machine.width, whole)):
        x = rest_down(machine, x, whole)
    found = stepped(machine, x, y, whole)
    return joined(machine, found, whole, -1) if modulus < 0 and found != 0 else found


def stepped(machine, x, y, whole):
    """x ** y of two integers, y from 0 on, made by its steps, each one followed by the rest by a whole above 0."""
    word, start, steps = way_of(machine.width, y)
    machine.enter(word, size_of(machine.width, x), size_of(machine.width, y))
    table = odd_powers(machine, x, whole) if word == "window" else {1: x}
    found = x if start == 1 else 1
    for step in steps:
        made = square_of(machine, found) if step == 0 else product_of(machine, found, table[step])
        found = rest_by(machine, made, whole)
    return found


def odd_powers(machine, x, whole):
    """The odd powers of x that a window can write, by their exponents."""
    twice = rest_by(machine, square_of(machine, x), whole)
    table = {1: x}
    for exponent in range(3, 1 << WINDOW, 2):
        table[exponent] = rest_by(machine, product_of(machine, table[exponent - 2], twice), whole)
    return table


def rest_by(machine, number, whole):
    """The rest of an integer by a whole above 0, or the integer itself for the whole 0."""
    return rest_down(machine, number, whole) if whole > 0 else number


def way_of(width, y):
    """The word of the way for an exponent, whether the power begins as x, and the steps."""
    if y < len(FEW):
        start, steps = FEW[y]
        return "few", start, list(steps)
    size = size_of(width, y)
    if size <= LONGEST_BINARY // width:
        return "binary", 1, binary_steps(y)
    return "window", 0, window_steps(y, size * width)


def binary_steps(y):
    """A square for each bit behind the first one, and a product if it is 1."""
    steps = []
    for place in reversed(range(y.bit_length() - 1)):
        steps.append(0)
        if (y >> place) & 1 == 1:
            steps.append(1)
    return steps


def window_steps(y, bits):
    """A square for each of so many bits, bits 0 ahead counted, and a product behind each row."""
    steps = []
    for place, number in rows_of(y, WINDOW):
        steps += [0] * (bits - place)
        steps.append(number)
        bits = place
    return steps + [0] * bits


def rows_of(y, width):
    """The tuples (place, number) of the rows of up to width bits, from the first bit 1 on."""
    rows = []
    while y > 0:
        place = max(y.bit_length() - width, 0)
        number = y >> place
        while number & 1 == 0:
            number >>= 1
            place += 1
        rows.append((place, number))
        # Of what is left, the bits 0 ahead are skipped.
        y &= (1 << place) - 1
    return rows


def cost_of(y, width):
    """How many squares and products the rows of up to width bits take, with those of their table."""
    rows = rows_of(y, width)
    first_place, first_number = rows[0]
    table = (1 << (width - 1)) - 1 + (1 if width > 1 else 0)
    return table + len(rows) - 1 + first_place


def inverted(machine, x, y):
    """A number whose product with x leaves the rest 1 by y, of two integers without a divisor in common."""
    machine.enter("inverse", size_of(machine.width, x), size_of(machine.width, y))
    a, n, b, c = x, y, 1, 0
    while n != 0:
        quotient, rest = divided_down(machine, a, n)
        part = product_of(machine, quotient, c)
        a, n, b, c = n, rest, c, joined(machine, b, part, -1)
    compared(machine, a, 1)
    return b
