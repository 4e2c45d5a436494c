"""Quotients and numbers rounded to the nearest; of two that are equally near, the even one is taken."""

from thirtybits.bigs import are_compact, big_of, check_one, compared
from thirtybits.division import check_division, divided, divided_digits, pair_of
from thirtybits.errors import InvalidBound, TooGreat
from thirtybits.powers import powered
from thirtybits.rows import low_part, size_of
from thirtybits.shifts import lifted, lowered, shifted_left
from thirtybits.sums import joined
from thirtybits.wholes import is_between

MANTISSA = 53
LEAST_EXPONENT = -1074
# Numbers from here on would be rounded to one of 1025 bits.
BOUND = (1 << 1024) - (1 << 970)
# Two bits more than a mantissa has, and whether anything is behind them, are enough to round by.
ROUNDED_BITS = 55
MOST_PLACES = 1000


def true_quotient(machine, x, y):
    """The quotient x / y rounded to 53 bits: its side, mantissa and exponent."""
    check_division(machine, x, y)
    a = abs(x.value)
    b = abs(y.value)
    if a >= BOUND * b:
        raise TooGreat()
    mantissa, exponent = ratio(machine, a, b)
    return 1 if (x.value < 0) == (y.value < 0) else -1, mantissa, exponent


def nearest(machine, x):
    """x rounded to 53 bits: its side, mantissa and exponent."""
    check_one(machine, x)
    number = abs(x.value)
    if number >= BOUND:
        raise TooGreat()
    mantissa, exponent = nearest_to(machine, number)
    return 1 if x.value >= 0 else -1, mantissa, exponent


def divide_near(machine, x, y):
    """The integer that is nearest to x / y, and what is left of x."""
    check_division(machine, x, y)
    return pair_of(machine, divided_near(machine, x.value, y.value))


def round_tens(machine, x, places):
    """The multiple of 10 ** places that is nearest to x."""
    check_one(machine, x)
    if not is_between(places, 0, MOST_PLACES):
        raise InvalidBound("places")
    if places == 0:
        return x
    quotient, rest = divided_near(machine, x.value, powered(machine, 10, places, 0))
    return big_of(machine, joined(machine, x.value, rest, -1))


def ratio(machine, a, b):
    """The mantissa and the exponent of a / b, for two numbers, b above 0."""
    if a == 0:
        return 0, 0
    more_bits = a.bit_length() - b.bit_length()
    shift = max(more_bits, LEAST_EXPONENT + MANTISSA) - ROUNDED_BITS
    if max(a.bit_length(), b.bit_length()) <= MANTISSA:
        machine.step("short", 1)
        quotient, rest = divmod(a << -shift, b)
    elif more_bits < LEAST_EXPONENT - 1:
        return 0, 0
    else:
        machine.enter("ratio", size_of(machine.width, a), size_of(machine.width, b))
        quotient, rest = divided_digits(machine, moved(machine, a, shift), b, "divide short")
    return rounded(quotient, shift, rest != 0 or has_bits_ahead(a, shift))


def nearest_to(machine, number):
    """The mantissa and the exponent of a number from 0 on."""
    bits = number.bit_length()
    shift = bits - ROUNDED_BITS
    if are_compact(machine, number, number):
        machine.step("short", 1)
        return rounded(number << -shift, shift, False)
    machine.enter("nearest", size_of(machine.width, number), bits)
    return rounded(moved(machine, number, shift), shift, has_bits_ahead(number, shift))


def moved(machine, number, shift):
    """A number shifted down, or up for a shift below 0, by whole digits and by a part of one."""
    width = machine.width
    size = size_of(width, number)
    if shift <= 0:
        lifted(machine, number, size, -shift % width)
        return number << -shift
    whole, part = divmod(shift, width)
    kept = number >> whole * width
    lowered(machine, kept, size - whole, part)
    if not has_bits_ahead(kept, part):
        # Nothing is left over, so that the digits ahead are looked at, down to one that is not 0.
        ahead = size_of(width, low_part(width, number, whole))
        machine.step("looked", min(whole - ahead + 1, whole))
    return number >> shift


def has_bits_ahead(number, count):
    """Whether one of the first bits of a number, so many, is 1."""
    return count > 0 and number & ((1 << count) - 1) != 0


def rounded(number, exponent, has_more):
    """The mantissa and the exponent nearest to number * 2 ** exponent, or to a bit more if has_more is True."""
    if number == 0:
        return 0, 0
    cut = max(number.bit_length() - MANTISSA, LEAST_EXPONENT - exponent)
    mantissa = number >> cut
    exponent += cut
    behind = number - (mantissa << cut)
    half = 1 << (cut - 1)
    if behind > half or (behind == half and (has_more or mantissa & 1 == 1)):
        mantissa += 1
    if mantissa >> MANTISSA == 1:
        mantissa >>= 1
        exponent += 1
    return (mantissa, exponent) if mantissa > 0 else (0, 0)


def divided_near(machine, x, y):
    """The integer nearest to x / y, of two integers, and what is left of x."""
    quotient, rest = divided(machine, x, y, "divide short")
    twice = shifted_left(machine, rest, 1)
    is_below = (x < 0) != (y < 0)
    order = compared(machine, -twice if is_below else twice, y)
    is_beyond = order == (1 if y > 0 else -1)
    if not is_beyond and (order != 0 or quotient & 1 == 0):
        return quotient, rest
    turn = -1 if is_below else 1
    quotient = joined(machine, quotient, 1, turn)
    return quotient, joined(machine, rest, y, -turn)
