"""Division and reading by halves, and products of many factors by trees."""

from thirtybits.bigs import big_of, check_two, ones_of
from thirtybits.division import divided_down, pair_of
from thirtybits.errors import InvalidBound, InvalidText, TooGreat, ZeroDivisor
from thirtybits.karatsuba import product_of, square_of
from thirtybits.machines import check_machine
from thirtybits.powers import powered
from thirtybits.rows import low_part, number_of, row_of, size_of
from thirtybits.shifts import shifted_left
from thirtybits.sums import joined
from thirtybits.texts import number_read
from thirtybits.wholes import is_between, is_integer

GREATEST_DIVIDE_LIMIT = 4000
GREATEST_READ_LIMIT = 2048
DECIMALS = "0123456789"
# What CPython does at once has no more bits than this.
WORD_BITS = 64
GREATEST_FACTORIAL = 1100
SHORT_FACTORIAL = 20
MOST_THINGS = 2 ** 63 - 1
MOST_CHOSEN = 400
FEW_THINGS = 127


def halves_divide(machine, x, y, *, limit=4000):
    """x / y rounded down, and the rest, by halves of more than limit bits."""
    check_two(machine, x, y)
    if not is_between(limit, 1, GREATEST_DIVIDE_LIMIT):
        raise InvalidBound("limit")
    if y.value == 0:
        raise ZeroDivisor()
    return pair_of(machine, divided_by_halves(machine, x.value, y.value, limit))


def halves_read(machine, text, *, limit=2048):
    """The Big of a text of digits, by halves of more than limit digits."""
    check_machine(machine)
    check_decimals(text)
    if not is_between(limit, 1, GREATEST_READ_LIMIT):
        raise InvalidBound("limit")
    values = [DECIMALS.find(sign) for sign in text]
    return big_of(machine, part_read(machine, values, 0, len(values), limit, {}))


def factorial(machine, n):
    """The product of the numbers from 1 to n."""
    check_machine(machine)
    if not is_integer(n) or n < 0:
        raise InvalidBound("n")
    if n > GREATEST_FACTORIAL:
        raise TooGreat()
    return big_of(machine, factorial_of(machine, n))


def comb(machine, n, k):
    """The number of ways to choose k of n things."""
    check_chosen(machine, n, k)
    if k > n:
        return big_of(machine, 0)
    fewer = min(k, n - k)
    if fewer > MOST_CHOSEN:
        raise TooGreat()
    return big_of(machine, choices(machine, n, fewer))


def perm(machine, n, k):
    """The number of rows of k of n things."""
    check_chosen(machine, n, k)
    if k > n:
        return big_of(machine, 0)
    if k > MOST_CHOSEN:
        raise TooGreat()
    return big_of(machine, arrangements(machine, n, k))


def check_decimals(text):
    """Raise InvalidText for what is no text of one or more digits from 0 to 9."""
    if not isinstance(text, str):
        raise InvalidText(-1)
    for place, sign in enumerate(text):
        if sign not in DECIMALS:
            raise InvalidText(place)
    if text == "":
        raise InvalidText(0)


def check_chosen(machine, n, k):
    """Raise InvalidBound for what is no machine, no number of things, or no number of those that are chosen."""
    check_machine(machine)
    if not is_between(n, 0, MOST_THINGS):
        raise InvalidBound("n")
    if not is_integer(k) or k < 0:
        raise InvalidBound("k")


def divided_by_halves(machine, x, y, limit):
    """x / y of two integers rounded down, and the rest."""
    if y < 0:
        quotient, rest = divided_by_halves(machine, -x, -y, limit)
        return quotient, -rest
    if x < 0:
        quotient, rest = divided_by_halves(machine, -x - 1, y, limit)
        return -quotient - 1, y - rest - 1
    bits = y.bit_length()
    pieces = []
    rest = 0
    for piece in reversed(row_of(bits, x, size_of(bits, x))):
        quotient, rest = two_by_one(machine, (rest << bits) + piece, y, bits, limit)
        pieces.append(quotient)
    return number_of(bits, list(reversed(pieces))), rest


def two_by_one(machine, a, b, n, limit):
    """The quotient, of n bits at most, and the rest of a number by one of n bits (TWO BY ONE)."""
    machine.enter("halves", a.bit_length(), n)
    if a.bit_length() - n <= limit:
        return divided_down(machine, a, b)
    # Both get one bit more if b cannot be halved, and so does the rest.
    more = n & 1
    half = (n + more) // 2
    a <<= more
    b <<= more
    first, rest = three_by_two(machine, a >> 2 * half, low_part(half, a >> half, 1), b, half, limit)
    last, rest = three_by_two(machine, rest, low_part(half, a, 1), b, half, limit)
    return (first << half) + last, rest >> more


def three_by_two(machine, above, below, b, half, limit):
    """The quotient, of so many bits, and the rest of above * 2 ** half + below by a b of two halves (THREE BY TWO)."""
    machine.enter("thirds", above.bit_length(), half)
    first = b >> half
    last = low_part(half, b, 1)
    if above >> half == first:
        quotient = (1 << half) - 1
        rest = above - (first << half) + first
    else:
        quotient, rest = two_by_one(machine, above, first, half, limit)
    rest = (rest << half) + below - product_of(machine, quotient, last)
    while rest < 0:
        machine.step("corrected", 1)
        quotient -= 1
        rest += b
    return quotient, rest


def part_read(machine, values, first, end, limit, fives):
    """The number of the digits from place first to below place end (PART); fives keeps the powers that are known."""
    machine.enter("part", first, end)
    if end - first <= limit:
        return number_read(machine, values[first:end], 10)
    middle = (first + end + 1) // 2
    right = part_read(machine, values, middle, end, limit, fives)
    left = part_read(machine, values, first, middle, limit, fives)
    size = end - middle
    left = shifted_left(machine, product_of(machine, left, five_to(machine, size, limit, fives)), size)
    return joined(machine, right, left, 1)


def five_to(machine, exponent, limit, fives):
    """FIVE to a power, which is made if it is not known."""
    if exponent not in fives:
        fives[exponent] = five_made(machine, exponent, limit, fives)
    return fives[exponent]


def five_made(machine, exponent, limit, fives):
    """FIVE to a power that is not known, made of those that are."""
    if exponent <= limit:
        return powered(machine, 5, exponent, 0)
    if exponent - 1 in fives:
        return product_of(machine, fives[exponent - 1], 5)
    half = exponent // 2
    made = five_to(machine, half, limit, fives)
    if exponent == 2 * half:
        return square_of(machine, made)
    return product_of(machine, made, five_to(machine, exponent - half, limit, fives))


def factorial_of(machine, n):
    """The product of the numbers from 1 to n: that of all their odd parts, times a power of two."""
    if n <= SHORT_FACTORIAL:
        return product_from(1, n + 1, 1)
    inner = outer = 1
    low = 3
    for place in reversed(range(n.bit_length() - 1)):
        last = n >> place
        if last > 2:
            high = (last + 1) | 1
            inner = product_of(machine, inner, odd_product(machine, low, high))
            outer = product_of(machine, outer, inner)
            low = high
    return shifted_left(machine, outer, n - ones_of(n))


def odd_product(machine, low, high):
    """The PRODUCT OF THE ODD NUMBERS from low to below high."""
    machine.enter("odd part", low, high)
    many = (high - low) // 2
    if many * (high - 2).bit_length() <= WORD_BITS:
        return product_from(low, high, 2)
    middle = (low + many) | 1
    first = odd_product(machine, low, middle)
    return product_of(machine, first, odd_product(machine, middle, high))


def product_from(first, end, step):
    """The product of the numbers from first to below end, by steps, uncounted."""
    found = 1
    for factor in range(first, end, step):
        found *= factor
    return found


def choices(machine, n, k):
    """The number of ways to choose k of n things (CHOICE)."""
    machine.enter("comb", n, k)
    found = choices_at_once(n, k)
    if found >> WORD_BITS == 0 and (n <= FEW_THINGS or found * k >> WORD_BITS == 0):
        return found
    half = k // 2
    found = product_of(machine, choices(machine, n, half), choices(machine, n - half, k - half))
    quotient, rest = divided_down(machine, found, choices(machine, k, half))
    return quotient


def choices_at_once(n, k):
    """The number of ways to choose k of n things, or some number of more than 64 bits if it has more, uncounted.

    Here k is at most half of n, so that the numbers on the way are not greater.
    """
    found = 1
    for taken in range(k):
        found = found * (n - taken) // (taken + 1)
        if found >> WORD_BITS > 0:
            break
    return found


def arrangements(machine, n, k):
    """The number of rows of k of n things (ROW)."""
    machine.enter("perm", n, k)
    found = arrangements_at_once(n, k)
    if found >> WORD_BITS == 0:
        return found
    half = k // 2
    first = arrangements(machine, n, half)
    return product_of(machine, first, arrangements(machine, n - half, k - half))


def arrangements_at_once(n, k):
    """The number of rows of k of n things, or some number of more than 64 bits if it has more, uncounted."""
    found = 1
    for taken in range(k):
        found *= n - taken
        if found >> WORD_BITS > 0:
            break
    return found
