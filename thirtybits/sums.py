"""Sums and differences of numbers, and of rows in place."""

from thirtybits.bigs import are_compact, big_of, check_two
from thirtybits.errors import InvalidBound
from thirtybits.machines import check_machine
from thirtybits.rows import check_row, last_difference, low_part, number_of, row_of, size_of


def add(machine, x, y):
    """x + y."""
    check_two(machine, x, y)
    return big_of(machine, joined(machine, x.value, y.value, 1))


def subtract(machine, x, y):
    """x - y."""
    check_two(machine, x, y)
    return big_of(machine, joined(machine, x.value, y.value, -1))


def added_into(machine, room, more):
    """What becomes of the digits of room if more is added to its beginning, and the last carry."""
    return joined_rows(machine, room, more, 1)


def taken_from(machine, room, more):
    """What becomes of the digits of room if more is taken from its beginning, and the last borrow."""
    return joined_rows(machine, room, more, -1)


def joined(machine, x, y, turn):
    """x + y for a turn of 1, x - y for a turn of -1, of two integers."""
    if are_compact(machine, x, y):
        machine.step("short", 1)
        return x + turn * y
    # A sum of numbers on one side of 0, and a difference of numbers on both sides, goes away from 0.
    if ((x < 0) == (y < 0)) == (turn == 1):
        total = added(machine, abs(x), size_of(machine.width, x), abs(y), size_of(machine.width, y))
        return -total if x < 0 else total
    if x < 0:
        return taken(machine, abs(y), abs(x))
    return taken(machine, abs(x), abs(y))


def added(machine, a, m, b, n):
    """a + b, of two numbers of m and n digits (ADDING)."""
    machine.enter("add", m, n)
    machine.step("sum", max(m, n))
    return a + b


def taken(machine, a, b):
    """a - b, of two numbers from 0 on (TAKING)."""
    m = size_of(machine.width, a)
    n = size_of(machine.width, b)
    machine.enter("take", m, n)
    if m == n:
        # Both are cut behind the place where they differ, and nothing is left if there is none.
        machine.step("sum", last_difference(machine, a, b) + 1)
    else:
        machine.step("sum", max(m, n))
    return a - b


def joined_rows(machine, room, more, turn):
    """The digits of room with more joined to its beginning, and the last carry or borrow."""
    check_machine(machine)
    check_row(machine, room, "room")
    check_row(machine, more, "more")
    if len(more) > len(room):
        raise InvalidBound("more")
    size = len(room)
    width = machine.width
    total = joined_room(machine, number_of(width, room), size, number_of(width, more), len(more), turn)
    return row_of(width, total, size), turn * (total >> size * width)


def joined_room(machine, room, r, more, p, turn):
    """What becomes of a room of r digits if a number of p digits is added to it (turn 1) or taken from it (turn -1).

    The result is not cut to r digits: what is left over stands behind them, below 0 if it is a borrow. A room of
    which something was taken may be passed on as it is, since its first r digits are those of the room.
    """
    machine.enter("add into" if turn == 1 else "take from", r, p)
    total = room + turn * more
    # Behind the first p digits, just those digits change that the carry or the borrow reaches.
    changed = (total ^ room) >> p * machine.width
    if changed != 0:
        p += size_of(machine.width, low_part(machine.width, changed, r - p))
    machine.step("sum", p)
    return total
