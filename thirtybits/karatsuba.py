"""Products: by rows for few digits, by slices for lopsided factors, else by Karatsuba's method.

Inside, a factor is a number from 0 on, beside it the number of digits that it is taken to have: more than it needs if
its last digits are 0, as in a slice.
"""

from thirtybits.bigs import are_compact, big_of, check_one, check_two
from thirtybits.products import product_by_rows, square_of_row
from thirtybits.rows import low_part, size_of
from thirtybits.sums import added, joined_room


def multiply(machine, x, y):
    """x * y."""
    check_two(machine, x, y)
    return big_of(machine, product_of(machine, x.value, y.value))


def square(machine, x):
    """x * x."""
    check_one(machine, x)
    return big_of(machine, square_of(machine, x.value))


def product_of(machine, x, y):
    """The product of two integers."""
    if are_compact(machine, x, y):
        machine.step("short", 1)
        return x * y
    number = multiplied(machine, abs(x), size_of(machine.width, x), abs(y), size_of(machine.width, y))
    return number if (x < 0) == (y < 0) else -number


def square_of(machine, x):
    """The square of an integer."""
    if are_compact(machine, x, x):
        machine.step("short", 1)
        return x * x
    return squared(machine, abs(x), size_of(machine.width, x))


def multiplied(machine, a, m, b, n):
    """The product of two numbers of m and n digits (MULTIPLIED)."""
    if n < m:
        a, m, b, n = b, n, a, m
    if m == 0:
        return 0
    if m <= machine.cutoff:
        return product_by_rows(machine, a, m, b, n)
    if 2 * m <= n:
        return lopsided_product(machine, a, m, b, n)
    return karatsuba_product(machine, a, m, b, n)


def squared(machine, a, m):
    """The square of a number of m digits (SQUARED)."""
    if m == 0:
        return 0
    if m <= 2 * machine.cutoff:
        return square_of_row(machine, a, m)
    return karatsuba_square(machine, a, m)


def lopsided_product(machine, a, m, b, n):
    """The product of a with a number b of at least twice as many digits, slice by slice (LOPSIDED)."""
    machine.enter("lopsided", m, n)
    width = machine.width
    room = 0
    for first in range(0, n, m):
        part = multiplied(machine, a, m, low_part(width, b, m), min(m, n - first))
        b >>= m * width
        above = joined_room(machine, room >> first * width, m + n - first, part, size_of(machine.width, part), 1)
        room = low_part(width, room, first) + (above << first * width)
    return room


def karatsuba_product(machine, a, m, b, n):
    """The product of a with a number b that does not have fewer digits (KARATSUBA)."""
    machine.enter("karatsuba", m, n)
    cut = n // 2
    a_low, low_m, a_high, high_m = parts_of(machine, a, cut)
    b_low, low_n, b_high, high_n = parts_of(machine, b, cut)
    high = multiplied(machine, a_high, high_m, b_high, high_n)
    low = multiplied(machine, a_low, low_m, b_low, low_n)
    above = room_above(machine, m + n - cut, cut, low, high)
    a_sum = added(machine, a_high, high_m, a_low, low_m)
    b_sum = added(machine, b_high, high_n, b_low, low_n)
    middle = multiplied(machine, a_sum, size_of(machine.width, a_sum), b_sum, size_of(machine.width, b_sum))
    return whole_room(machine, m + n - cut, cut, low, above, middle)


def karatsuba_square(machine, a, m):
    """The square of a number of m digits (KARATSUBA)."""
    machine.enter("karatsuba", m, m)
    cut = m // 2
    a_low, low_m, a_high, high_m = parts_of(machine, a, cut)
    high = squared(machine, a_high, high_m)
    low = squared(machine, a_low, low_m)
    above = room_above(machine, 2 * m - cut, cut, low, high)
    a_sum = added(machine, a_high, high_m, a_low, low_m)
    middle = squared(machine, a_sum, size_of(machine.width, a_sum))
    return whole_room(machine, 2 * m - cut, cut, low, above, middle)


def parts_of(machine, a, cut):
    """The low part of a number with its size, and the high part with its size."""
    low = low_part(machine.width, a, cut)
    high = a >> cut * machine.width
    return low, size_of(machine.width, low), high, size_of(machine.width, high)


def room_above(machine, size, cut, low, high):
    """The room from digit number cut on, so many digits, from which both outer products were taken.

    It may be below 0: what is borrowed behind its last digit comes back when the product of the sums is added.
    """
    width = machine.width
    above = (low >> cut * width) + (high << cut * width)
    above = joined_room(machine, above, size, low, size_of(machine.width, low), -1)
    return joined_room(machine, above, size, high, size_of(machine.width, high), -1)


def whole_room(machine, size, cut, low, above, middle):
    """The whole room, when the product of the sums was added to it from digit number cut on."""
    above = joined_room(machine, above, size, middle, size_of(machine.width, middle), 1)
    return low_part(machine.width, low, cut) + (above << cut * machine.width)
