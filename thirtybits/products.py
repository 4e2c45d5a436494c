"""Products by rows, one row for each digit."""

from thirtybits.bigs import big_of, check_one, check_two


def multiply_by_rows(machine, x, y):
    """x * y, by rows."""
    check_two(machine, x, y)
    number = product_by_rows(machine, abs(x.value), len(x.row), abs(y.value), len(y.row))
    return big_of(machine, x.side * y.side * number)


def square_by_rows(machine, x):
    """x * x, by square rows."""
    check_one(machine, x)
    return big_of(machine, square_of_row(machine, abs(x.value), len(x.row)))


def product_by_rows(machine, a, m, b, n):
    """The product of two numbers of m and n digits (ROWS)."""
    machine.enter("rows", m, n)
    # Each digit of one is multiplied with each digit of the other.
    machine.step("product", m * n)
    return a * b


def square_of_row(machine, a, m):
    """The square of a number of m digits (SQUARE ROWS)."""
    machine.enter("square", m, m)
    # Each digit is multiplied with itself and with each later one.
    machine.step("product", m * (m + 1) // 2)
    return a * a
