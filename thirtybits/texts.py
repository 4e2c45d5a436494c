"""Texts of numbers, written and read in several bases."""

from thirtybits.bigs import big_of, check_one
from thirtybits.errors import InvalidBound, InvalidText, LimitExceeded
from thirtybits.machines import check_machine
from thirtybits.rows import number_of, size_of
from thirtybits.wholes import is_between, is_integer

LEAST_LIMIT = 640
GREATEST_BASE = 36
WRITTEN_BASES = (2, 8, 10, 16)
# How many bits a digit of a text has, for the bases that are powers of two.
DIGIT_BITS = {2: 1, 4: 2, 8: 3, 16: 4, 32: 5}
BLANKS = " \t\n"
PREFIXES = {"x": 16, "X": 16, "o": 8, "O": 8, "b": 2, "B": 2}
SMALL_SIGNS = "0123456789abcdefghijklmnopqrstuvwxyz"
CAPITAL_SIGNS = "0123456789ABCDEFGHIJKLMNOPQRSTUVWXYZ"
# Python writes no number of more than some thousand digits at once, so that a text is put together of parts.
PART = 10 ** 64
PART_SIZE = 64


def to_text(machine, x, base=10, *, most=4300):
    """The text of x for a base 2, 8, 10 or 16."""
    check_one(machine, x)
    if not is_integer(base) or base not in WRITTEN_BASES:
        raise InvalidBound("base")
    check_most(most)
    number = abs(x.value)
    text = written(number, base)
    if base == 10 and most != 0 and len(text) > most:
        raise LimitExceeded(most)
    machine.enter("write", size_of(machine.width, number), base)
    if base == 10:
        machine.step("quotient", item_steps(machine.width, number))
    elif number > 0:
        machine.step("shifted", len(text))
    return f"-{text}" if x.value < 0 else text


def read_text(machine, text, base=10, *, most=4300):
    """The Big that a text for a base tells."""
    check_machine(machine)
    if not isinstance(text, str):
        raise InvalidText(-1)
    if not is_integer(base) or (base != 0 and not is_between(base, 2, GREATEST_BASE)):
        raise InvalidBound("base")
    check_most(most)
    turn, found_base, values = parts_of_text(text, base)
    if found_base not in DIGIT_BITS and most != 0 and len(values) > most:
        raise LimitExceeded(most)
    return big_of(machine, turn * number_read(machine, values, found_base))


def group_of(machine, base):
    """How many digits of a text make a group, and how many groups there are, for a base that is no power of two."""
    check_machine(machine)
    if not is_between(base, 3, GREATEST_BASE) or base in DIGIT_BITS:
        raise InvalidBound("base")
    return group_in(machine.width, base)


def check_most(most):
    """Raise InvalidBound for what is no limit of digits."""
    if not is_integer(most) or (most != 0 and most < LEAST_LIMIT):
        raise InvalidBound("most")


def group_in(width, base):
    """The greatest number of digits for which there are at most BASE groups, and how many groups there are."""
    size = 1
    scale = base
    while scale * base <= 1 << width:
        size += 1
        scale *= base
    return size, scale


def written(number, base):
    """The text of a number from 0 on."""
    if base == 10:
        return decimal_text(number)
    if base == 2:
        return f"{number:b}"
    return f"{number:o}" if base == 8 else f"{number:x}"


def decimal_text(number):
    """The text of a number from 0 on for the base 10."""
    scales = [PART]
    while scales[-1] <= number:
        scales.append(scales[-1] * scales[-1])
    text = padded_text(number, scales, len(scales) - 1).lstrip("0")
    return text if text != "" else "0"


def padded_text(number, scales, level):
    """The text of a number below scales[level], with zeros ahead."""
    if level == 0:
        return str(number).zfill(PART_SIZE)
    high, low = divmod(number, scales[level - 1])
    return padded_text(high, scales, level - 1) + padded_text(low, scales, level - 1)


def item_steps(width, number):
    """How many quotients it takes to bring the digits of a number into items.

    Each digit takes one for each item that there is behind it: so many items has the number of this digit and of all
    those that were taken ahead of it.
    """
    size, scale = group_in(width, 10)
    items = 0
    limit = 1
    steps = 0
    for place in reversed(range(size_of(width, number))):
        ahead = number >> place * width
        while ahead >= limit:
            limit *= scale
            items += 1
        steps += items
    return steps


def parts_of_text(text, base):
    """The sign (1 or -1), the base and the values of the digits of a text for a base."""
    place = behind_blanks(text, 0)
    sign = text[place:place + 1]
    if sign in ("+", "-"):
        place += 1
    found_base, place = behind_prefix(text, place, base)
    # A text for the base 0 that begins with a 0, and not with a prefix, has no other digits.
    zeros_alone = found_base == 0 and text[place:place + 1] == "0"
    found_base = 10 if found_base == 0 else found_base
    values, place = digits_from(text, place, 1 if zeros_alone else found_base)
    place = behind_blanks(text, place)
    if place < len(text):
        raise InvalidText(place)
    return -1 if sign == "-" else 1, found_base, values


def behind_blanks(text, place):
    """The place behind the blanks from a place on."""
    while place < len(text) and text[place] in BLANKS:
        place += 1
    return place


def behind_prefix(text, place, base):
    """The base that a prefix tells, or the base that was asked for, and the place behind the prefix."""
    if text[place:place + 1] != "0":
        return base, place
    found = PREFIXES.get(text[place + 1:place + 2], 0)
    if found == 0 or base not in (0, found):
        return base, place
    place += 2
    if text[place:place + 1] == "_":
        place += 1
    return found, place


def digits_from(text, place, top):
    """The values of the digits below top from a place on, one at least, and the place behind them."""
    values = []
    is_due = True
    while place < len(text):
        value = value_of(text[place])
        if value < top:
            values.append(value)
            is_due = False
        elif text[place] == "_" and not is_due:
            is_due = True
        else:
            break
        place += 1
    if is_due:
        raise InvalidText(place)
    return values, place


def value_of(sign):
    """The value of a sign as a digit, 36 if it is none."""
    value = max(SMALL_SIGNS.find(sign), CAPITAL_SIGNS.find(sign))
    return GREATEST_BASE if value < 0 else value


def number_read(machine, values, base):
    """The number of the digits of a text, the greatest first."""
    machine.enter("read", len(values), base)
    if base not in DIGIT_BITS:
        return number_by_groups(machine, values, base)
    bits = DIGIT_BITS[base]
    machine.step("shifted", (len(values) * bits + machine.width - 1) // machine.width)
    return number_of(bits, list(reversed(values)))


def number_by_groups(machine, values, base):
    """The number of the digits of a text, the greatest first, for a base that is no power of two."""
    size, most_groups = group_in(machine.width, base)
    number = 0
    for first in range(0, len(values), size):
        # Each digit that there is by now is gone through.
        machine.step("product", size_of(machine.width, number))
        group, scale = 0, 1
        for value in values[first:first + size]:
            group = group * base + value
            scale *= base
        number = number * scale + group
    return number
