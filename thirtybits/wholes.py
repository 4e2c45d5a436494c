"""What counts as an integer, and what several files do with integers without counting it."""


def is_integer(value):
    """Whether a value is an integer; True and False are none."""
    return isinstance(value, int) and not isinstance(value, bool)


def is_between(value, low, high):
    """Whether a value is an integer from low to high."""
    return is_integer(value) and low <= value <= high


def euclid(a, b):
    """The greatest common divisor of two numbers from 0 on, and how many quotients it takes."""
    steps = 0
    while b != 0:
        a, b = b, a % b
        steps += 1
    return a, steps
