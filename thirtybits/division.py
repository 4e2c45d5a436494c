"""Division: at once, by one digit, or digit by digit of the quotient."""

from thirtybits.bigs import big_of, check_two
from thirtybits.errors import InvalidBound, ZeroDivisor
from thirtybits.rows import number_of, row_of, size_of, top_digit
from thirtybits.shifts import lifted, lowered
from thirtybits.sums import joined


def truncated(machine, x, y):
    """x / y rounded to 0, and what is left."""
    check_division(machine, x, y)
    return pair_of(machine, divided(machine, x.value, y.value, "divide short"))


def divide_both(machine, x, y):
    """x / y rounded down, and the rest, which is 0 or has the sign of y."""
    check_division(machine, x, y)
    return pair_of(machine, divided_down(machine, x.value, y.value))


def floor_divide(machine, x, y):
    """x / y rounded down."""
    check_division(machine, x, y)
    quotient, rest = divided_down(machine, x.value, y.value)
    return big_of(machine, quotient)


def modulo(machine, x, y):
    """The rest of x by y, which is 0 or has the sign of y."""
    check_division(machine, x, y)
    return big_of(machine, rest_down(machine, x.value, y.value))


def long_walk(machine, x, y):
    """The tuples (guess, corrected, restored, digit) of a long division, from the last digit of the quotient down."""
    check_two(machine, x, y)
    if len(y.row) < 2:
        raise InvalidBound("y")
    a = abs(x.value)
    b = abs(y.value)
    if is_less_at_once(machine, a, b):
        raise InvalidBound("x")
    steps, rest = long_division(machine, a, len(x.row), b, len(y.row))
    return steps


def check_division(machine, x, y):
    """Raise InvalidBound for what is no machine, or no Bigs x and y of its bits, and ZeroDivisor if y is 0."""
    check_two(machine, x, y)
    if y.value == 0:
        raise ZeroDivisor()


def pair_of(machine, pair):
    """The Bigs of two integers."""
    quotient, rest = pair
    return big_of(machine, quotient), big_of(machine, rest)


def divided(machine, x, y, short_word):
    """x / y of two integers rounded to 0, and what is left; the word is for the walk of a division by one digit."""
    a = abs(x)
    b = abs(y)
    if is_less_at_once(machine, a, b):
        return 0, x
    quotient, rest = divided_digits(machine, a, b, short_word)
    return quotient if (x < 0) == (y < 0) else -quotient, -rest if x < 0 else rest


def divided_digits(machine, a, b, short_word):
    """The quotient and the rest of two numbers: SHORT division by one digit, LONG division by more."""
    m = size_of(machine.width, a)
    n = size_of(machine.width, b)
    if n == 1:
        return short_division(machine, short_word, a, m, b)
    steps, rest = long_division(machine, a, m, b, n)
    return number_of(machine.width, [digit for guess, corrected, restored, digit in reversed(steps)]), rest


def divided_down(machine, x, y):
    """x / y of two integers rounded down, and the rest."""
    if have_one_digit(machine, x, y):
        machine.step("short", 1)
        return divmod(x, y)
    quotient, rest = divided(machine, x, y, "divide short")
    if is_on_other_side(rest, y):
        rest = joined(machine, rest, y, 1)
        quotient = joined(machine, quotient, 1, -1)
    return quotient, rest


def rest_down(machine, x, y):
    """The rest of an integer x by y, where x / y is rounded down."""
    if have_one_digit(machine, x, y):
        machine.step("short", 1)
        return x % y
    quotient, rest = divided(machine, x, y, "rest short")
    return joined(machine, rest, y, 1) if is_on_other_side(rest, y) else rest


def have_one_digit(machine, x, y):
    """Whether two integers have exactly one digit each."""
    return size_of(machine.width, x) == 1 and size_of(machine.width, y) == 1


def is_on_other_side(rest, y):
    """Whether a rest is not 0 and has not the sign of y."""
    return rest != 0 and (rest < 0) != (y < 0)


def is_less_at_once(machine, a, b):
    """Whether the sizes, or the last digits, tell that a is less than b (the first DOOR)."""
    m = size_of(machine.width, a)
    n = size_of(machine.width, b)
    above = (n - 1) * machine.width
    return m < n or (m == n and a >> above < b >> above)


def short_division(machine, word, a, m, b):
    """The quotient and the rest of a number of m digits by one digit (SHORT division)."""
    machine.enter(word, m, 1)
    machine.step("quotient", m)
    return divmod(a, b)


def long_division(machine, a, m, b, n):
    """The steps of the quotient of a number of m digits by one of n, and the rest (LONG division)."""
    machine.enter("divide long", m, n)
    width = machine.width
    short_of = n * width - b.bit_length()
    b = lifted(machine, b, n, short_of)
    a = lifted(machine, a, m, short_of)
    # What is left over stands ahead of a's last digit here: if there is something, this is more than any digit.
    if a >> (m - 1) * width >= b >> (n - 1) * width:
        m += 1
    steps, rest = quotient_steps(machine, a, m, b, n)
    return steps, lowered(machine, rest, n, short_of)


def quotient_steps(machine, a, m, b, n):
    """The tuples (guess, corrected, restored, digit), from the last digit of the quotient down, and the rest."""
    width = machine.width
    top = top_digit(width)
    behind = (n - 2) * width
    b_last = b >> (behind + width)
    b_second = (b >> behind) & top
    rest = a >> (m - n) * width
    steps = []
    for digit in reversed(row_of(width, a, m - n)):
        rest = (rest << width) + digit
        head = rest >> behind
        guess, left = divmod(head >> width, b_last)
        corrected = corrections(width, guess, left, b_last, b_second, head & top)
        found = guess - corrected
        rest -= found * b
        restored = rest < 0
        if restored:
            found -= 1
            rest += b
        steps.append((guess, corrected, restored, found))
    count_steps(machine, steps, n)
    return steps, rest


def corrections(width, guess, left, b_last, b_second, third):
    """How often a guess becomes 1 less, seen from the second digit of b and the third one of what is divided."""
    corrected = 0
    while left >> width == 0 and b_second * (guess - corrected) > (left << width) + third:
        corrected += 1
        left += b_last
    return corrected


def count_steps(machine, steps, n):
    """Count the steps of a long division by n digits."""
    restored = len([step for step in steps if step[2]])
    machine.step("quotient", len(steps))
    machine.step("corrected", sum([step[1] for step in steps]))
    machine.step("product", len(steps) * n)
    machine.step("restored", restored)
    machine.step("sum", restored * n)
