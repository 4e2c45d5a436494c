"""Products by rows, one row for each digit."""

from thirtybits.bigs import big_of_row, check_one, check_two
from thirtybits.rows import top_digit, trimmed


def multiply_by_rows(machine, x, y):
    """x * y, by rows."""
    check_two(machine, x, y)
    return big_of_row(machine, x.side * y.side, product_by_rows(machine, x.row, y.row))


def square_by_rows(machine, x):
    """x * x, by square rows."""
    check_one(machine, x)
    return big_of_row(machine, x.side * x.side, square_of_row(machine, x.row))


def product_by_rows(machine, a, b):
    """The digits of the product of two rows, without 0 at the end (ROWS)."""
    machine.enter("rows", len(a), len(b))
    top = top_digit(machine)
    width = machine.width
    room = [0] * (len(a) + len(b))
    for first, digit in enumerate(a):
        carry = 0
        for place, other in enumerate(b, start=first):
            total = room[place] + digit * other + carry
            room[place] = total & top
            carry = total >> width
        room[first + len(b)] = carry
    machine.step("product", len(a) * len(b))
    return trimmed(room)


def square_of_row(machine, a):
    """The digits of the square of a row, without 0 at the end (SQUARE ROWS)."""
    size = len(a)
    machine.enter("square", size, size)
    room = [0] * (2 * size)
    for first in range(size):
        carry = add_square_row(machine, room, a, first)
        put_carry(machine, room, first + size, carry)
    machine.step("product", size * (size + 1) // 2)
    return trimmed(room)


def add_square_row(machine, room, a, first):
    """Add the products of digit number first with itself and the later ones to room; the carry that is left."""
    top = top_digit(machine)
    width = machine.width
    digit = a[first]
    total = room[2 * first] + digit * digit
    room[2 * first] = total & top
    carry = total >> width
    for place in range(first + 1, len(a)):
        # Each product of two different digits occurs twice in a square.
        total = room[first + place] + 2 * digit * a[place] + carry
        room[first + place] = total & top
        carry = total >> width
    return carry


def put_carry(machine, room, place, carry):
    """Add the carry that a square row leaves over to room at a place."""
    if carry == 0:
        return
    total = room[place] + carry
    room[place] = total & top_digit(machine)
    # Twice a product may leave a carry that is greater than a digit.
    over = total >> machine.width
    if over != 0:
        room[place + 1] = over
