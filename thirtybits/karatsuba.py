"""Products: by rows for few digits, by slices for lopsided factors, else by Karatsuba's method."""

from thirtybits.bigs import big_of_integer, big_of_row, check_one, check_two, compact_value, is_compact
from thirtybits.products import product_by_rows, square_of_row
from thirtybits.rows import trimmed
from thirtybits.sums import added_room, added_rows, taken_room


def multiply(machine, x, y):
    """x * y."""
    check_two(machine, x, y)
    if is_compact(x) and is_compact(y):
        machine.step("short", 1)
        return big_of_integer(machine, compact_value(x) * compact_value(y))
    return big_of_row(machine, x.side * y.side, multiplied(machine, x.row, y.row))


def square(machine, x):
    """x * x."""
    check_one(machine, x)
    if is_compact(x):
        machine.step("short", 1)
        return big_of_integer(machine, compact_value(x) * compact_value(x))
    return big_of_row(machine, 1, squared(machine, x.row))


def multiplied(machine, a, b):
    """The digits of the product of two rows, without 0 at the end (MULTIPLIED)."""
    if len(b) < len(a):
        a, b = b, a
    if len(a) == 0:
        return []
    if len(a) <= machine.cutoff:
        return product_by_rows(machine, a, b)
    if 2 * len(a) <= len(b):
        return lopsided_product(machine, a, b)
    return karatsuba_product(machine, a, b)


def squared(machine, a):
    """The digits of the square of a row, without 0 at the end (SQUARED)."""
    if len(a) == 0:
        return []
    if len(a) <= 2 * machine.cutoff:
        return square_of_row(machine, a)
    return karatsuba_square(machine, a)


def lopsided_product(machine, a, b):
    """The digits of the product of a with a row b at least twice as long, slice by slice (LOPSIDED)."""
    machine.enter("lopsided", len(a), len(b))
    room = [0] * (len(a) + len(b))
    for first in range(0, len(b), len(a)):
        part = multiplied(machine, a, b[first:first + len(a)])
        room = room_with(machine, room, first, part)
    return trimmed(room)


def karatsuba_product(machine, a, b):
    """The digits of the product of a with a row b that is not shorter (KARATSUBA)."""
    machine.enter("karatsuba", len(a), len(b))
    cut = len(b) // 2
    a_low, a_high = parts_of(a, cut)
    b_low, b_high = parts_of(b, cut)
    high = multiplied(machine, a_high, b_high)
    low = multiplied(machine, a_low, b_low)
    room = outer_room(machine, len(a) + len(b), cut, low, high)
    a_sum = added_rows(machine, a_high, a_low)
    b_sum = added_rows(machine, b_high, b_low)
    return trimmed(room_with(machine, room, cut, multiplied(machine, a_sum, b_sum)))


def karatsuba_square(machine, a):
    """The digits of the square of a row (KARATSUBA)."""
    machine.enter("karatsuba", len(a), len(a))
    cut = len(a) // 2
    a_low, a_high = parts_of(a, cut)
    high = squared(machine, a_high)
    low = squared(machine, a_low)
    room = outer_room(machine, 2 * len(a), cut, low, high)
    a_sum = added_rows(machine, a_high, a_low)
    return trimmed(room_with(machine, room, cut, squared(machine, a_sum)))


def parts_of(row, cut):
    """The low part of a row and the high one, each without 0 at the end."""
    return trimmed(row[:cut]), trimmed(row[cut:])


def outer_room(machine, size, cut, low, high):
    """The room with the products of the low and the high parts in their places, both taken from its middle."""
    room = [0] * size
    room[:len(low)] = low
    room[2 * cut:2 * cut + len(high)] = high
    for part in (low, high):
        # What is borrowed behind the last digit comes back when the product of the sums is added.
        row, borrow = taken_room(machine, room[cut:], part)
        room[cut:] = row
    return room


def room_with(machine, room, first, part):
    """A copy of room to which a row was added from number first on."""
    row, carry = added_room(machine, room[first:], part)
    return room[:first] + row
