"""Sums and differences, digit by digit."""

from thirtybits.bigs import big_of_integer, big_of_row, check_two, compact_value, is_compact
from thirtybits.errors import InvalidBound
from thirtybits.machines import check_machine
from thirtybits.rows import check_row, last_difference, top_digit


def add(machine, x, y):
    """x + y."""
    check_two(machine, x, y)
    return joined_bigs(machine, x, y, 1)


def subtract(machine, x, y):
    """x - y."""
    check_two(machine, x, y)
    return joined_bigs(machine, x, y, -1)


def added_into(machine, room, more):
    """What becomes of the digits of room if more is added to its beginning, and the last carry."""
    check_rooms(machine, room, more)
    return added_room(machine, room, more)


def taken_from(machine, room, more):
    """What becomes of the digits of room if more is taken from its beginning, and the last borrow."""
    check_rooms(machine, room, more)
    return taken_room(machine, room, more)


def check_rooms(machine, room, more):
    """Raise InvalidBound for what is no machine, or no lists of digits, more not the longer one."""
    check_machine(machine)
    check_row(machine, room, "room")
    check_row(machine, more, "more")
    if len(more) > len(room):
        raise InvalidBound("more")


def joined_bigs(machine, x, y, turn):
    """x + y for a turn of 1, x - y for a turn of -1."""
    if is_compact(x) and is_compact(y):
        machine.step("short", 1)
        return big_of_integer(machine, compact_value(x) + turn * compact_value(y))
    x_below = x.side < 0
    y_below = y.side < 0
    # A sum of numbers on one side of 0, and a difference of numbers on both sides, goes away from 0.
    if (x_below == y_below) == (turn == 1):
        return big_of_row(machine, -1 if x_below else 1, added_rows(machine, x.row, y.row))
    if x_below:
        sign, row = taken_rows(machine, y.row, x.row)
    else:
        sign, row = taken_rows(machine, x.row, y.row)
    return big_of_row(machine, sign, row)


def added_rows(machine, a, b):
    """The digits of the sum of two rows (ADDING)."""
    machine.enter("add", len(a), len(b))
    if len(b) > len(a):
        a, b = b, a
    row, carry = joined_rows(machine, a, b, 1)
    if carry != 0:
        row.append(carry)
    return row


def taken_rows(machine, a, b):
    """The sign of the difference of two rows, and its digits, if need be with 0 at the end (TAKING)."""
    machine.enter("take", len(a), len(b))
    if len(a) == len(b):
        place = last_difference(machine, a, b)
        a = a[:place + 1]
        b = b[:place + 1]
        turned = place >= 0 and a[place] < b[place]
    else:
        turned = len(a) < len(b)
    if turned:
        a, b = b, a
    # The row that is left is not less than the other one, so nothing is borrowed at its end.
    row, carry = joined_rows(machine, a, b, -1)
    return -1 if turned else 1, row


def joined_rows(machine, a, b, turn):
    """The digits of a + b, or for a turn of -1 of a - b, for a row b that is not longer than a, and the carry."""
    top = top_digit(machine)
    row = []
    carry = 0
    for place, digit in enumerate(a):
        total = digit + carry
        if place < len(b):
            total += turn * b[place]
        row.append(total & top)
        carry = total >> machine.width
    machine.step("sum", len(a))
    return row, carry


def added_room(machine, room, more):
    """A copy of room to whose beginning the row more was added, and the last carry."""
    machine.enter("add into", len(room), len(more))
    return joined_room(machine, room, more, 1)


def taken_room(machine, room, more):
    """A copy of room from whose beginning the row more was taken, and the last borrow."""
    machine.enter("take from", len(room), len(more))
    row, carry = joined_room(machine, room, more, -1)
    return row, -carry


def joined_room(machine, room, more, turn):
    """A copy of room with more joined to its beginning, no further than the carry goes, and the last carry."""
    top = top_digit(machine)
    row = list(room)
    carry = 0
    place = 0
    while place < len(more) or (carry != 0 and place < len(row)):
        total = row[place] + carry
        if place < len(more):
            total += turn * more[place]
        row[place] = total & top
        carry = total >> machine.width
        place += 1
    machine.step("sum", place)
    return row, carry
