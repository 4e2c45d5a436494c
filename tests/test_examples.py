"""The examples of the document, each as it stands there."""

import unittest

from thirtybits import errors

EXAMPLES = {
    "e01": """
>>> from thirtybits.machines import Machine
>>> Machine(7)
raises InvalidMachine(part='bits')
""",
    "e02": """
>>> from thirtybits.machines import Machine
>>> from thirtybits.bigs import big, normal, plain
>>> tiny = Machine(8, 4)
>>> [big(tiny, -2000).digits(), big(tiny, -2000).sign(), plain(normal(tiny, 1, [5, 0, 0])), big(Machine(), 2 ** 60).digits()]
[[208, 7], -1, 5, [0, 0, 1]]
""",
    "e03": """
>>> from thirtybits.machines import Machine
>>> from thirtybits.bigs import big, compare
>>> tiny = Machine(8, 4)
>>> [compare(tiny, big(tiny, -2000), big(tiny, -1999)), tiny.tally()[9], compare(tiny, big(tiny, 5), big(tiny, 7)), tiny.tally()[0]]
[-1, ('looked', 2), -1, ('short', 1)]
""",
    "e04": """
>>> from thirtybits.machines import Machine
>>> from thirtybits.bigs import big, bit_count, bit_length, hash_of
>>> tiny = Machine(8, 4)
>>> [bit_length(big(tiny, -2000)), bit_count(big(tiny, -2000)), hash_of(big(tiny, -1)), hash_of(big(Machine(), 2 ** 61))]
[11, 6, -2, 1]
""",
    "e05": """
>>> from thirtybits.machines import Machine
>>> from thirtybits.bigs import big
>>> from thirtybits.sums import add
>>> tiny = Machine(8, 4)
>>> [add(tiny, big(tiny, 2000), big(tiny, 4000)).digits(), tiny.tally()[1], tiny.walk()]
[[112, 23], ('sum', 2), [('add', 2, 2)]]
""",
    "e06": """
>>> from thirtybits.machines import Machine
>>> from thirtybits.bigs import big, plain
>>> from thirtybits.sums import subtract
>>> tiny = Machine(8, 4)
>>> [plain(subtract(tiny, big(tiny, 65537), big(tiny, 65538))), tiny.tally()[1], tiny.tally()[9], tiny.walk()]
[-1, ('sum', 1), ('looked', 3), [('take', 3, 3)]]
""",
    "e07": """
>>> from thirtybits.machines import Machine
>>> from thirtybits.sums import added_into, taken_from
>>> tiny = Machine(8, 4)
>>> [added_into(tiny, [255, 255, 5, 7], [1]), taken_from(tiny, [0, 0], [1]), tiny.tally()[1]]
[([0, 0, 6, 7], 0), ([255, 255], 1), ('sum', 5)]
""",
    "e08": """
>>> from thirtybits.machines import Machine
>>> from thirtybits.bigs import big
>>> from thirtybits.sums import add
>>> add(Machine(8), big(Machine(9), 5), big(Machine(9), 5))
raises InvalidBound(argument='x')
""",
    "e201": """
>>> from thirtybits.bigs import big, plain
>>> from thirtybits.machines import Machine
>>> from thirtybits.products import multiply_by_rows
>>> tiny = Machine(8, 4)
>>> found = multiply_by_rows(tiny, big(tiny, -1000), big(tiny, 70000))
>>> [plain(found), dict(tiny.tally())["product"]]
[-70000000, 6]
""",
    "e202": """
>>> from thirtybits.bigs import big, plain
>>> from thirtybits.machines import Machine
>>> from thirtybits.products import square_by_rows
>>> tiny = Machine(8, 4)
>>> square_by_rows(tiny, big(tiny, 16777215)).digits()
[1, 0, 0, 254, 255, 255]
""",
    "e203": """
>>> from thirtybits.bigs import big, plain
>>> from thirtybits.machines import Machine
>>> from thirtybits.karatsuba import multiply
>>> tiny = Machine(8, 4)
>>> found = multiply(tiny, big(tiny, -300), big(tiny, 7))
>>> [plain(found), tiny.walk()]
[-2100, [('rows', 1, 2)]]
""",
    "e204": """
>>> from thirtybits.bigs import big, plain
>>> from thirtybits.machines import Machine
>>> from thirtybits.karatsuba import multiply
>>> tiny = Machine(8, 4)
>>> x = big(tiny, 256 ** 5 - 1)
>>> found = multiply(tiny, x, x)
>>> tiny.walk()[:3]
[('karatsuba', 5, 5), ('rows', 3, 3), ('rows', 2, 2)]
""",
    "e205": """
>>> from thirtybits.bigs import big, plain
>>> from thirtybits.machines import Machine
>>> from thirtybits.karatsuba import multiply
>>> tiny = Machine(8, 4)
>>> found = multiply(tiny, big(tiny, 256 ** 5 - 1), big(tiny, 256 ** 10))
>>> [dict(tiny.tally())["product"], dict(tiny.tally())["sum"]]
[5, 11]
""",
    "e206": """
>>> from thirtybits.bigs import big, plain
>>> from thirtybits.machines import Machine
>>> from thirtybits.karatsuba import square
>>> tiny = Machine(8, 4)
>>> found = square(tiny, big(tiny, 256 ** 9 - 1))
>>> tiny.walk()[:3]
[('karatsuba', 9, 9), ('square', 5, 5), ('square', 4, 4)]
""",
    "e207": """
>>> from thirtybits.bigs import big, plain
>>> from thirtybits.machines import Machine
>>> from thirtybits.karatsuba import multiply
>>> tiny = Machine(8, 4)
>>> found = multiply(tiny, big(tiny, 5), big(tiny, -7))
>>> [plain(found), dict(tiny.tally())["short"], tiny.walk()]
[-35, 1, []]
""",
    "e401": """
>>> from thirtybits.machines import Machine
>>> from thirtybits.bigs import big, plain
>>> from thirtybits.division import truncated
>>> tiny = Machine(8, 4)
>>> pair = truncated(tiny, big(tiny, -2000), big(tiny, 7))
>>> [plain(pair[0]), plain(pair[1]), tiny.tally()[3], tiny.walk()]
[-285, -5, ('quotient', 2), [('divide short', 2, 1)]]
""",
    "e402": """
>>> from thirtybits.machines import Machine
>>> from thirtybits.bigs import big, plain
>>> from thirtybits.division import truncated
>>> tiny = Machine(8, 4)
>>> pair = truncated(tiny, big(tiny, 65536), big(tiny, 258))
>>> [plain(pair[0]), plain(pair[1]), tiny.tally()[2], tiny.tally()[6], tiny.walk()]
[254, 4, ('product', 2), ('shifted', 7), [('divide long', 3, 2), ('lift', 2, 7), ('lift', 3, 7), ('lower', 2, 7)]]
""",
    "e403": """
>>> from thirtybits.machines import Machine
>>> from thirtybits.bigs import big, plain
>>> from thirtybits.division import divide_both
>>> tiny = Machine(8, 4)
>>> pair = divide_both(tiny, big(tiny, -2000), big(tiny, 7))
>>> [plain(pair[0]), plain(pair[1]), tiny.tally()[0], tiny.tally()[1], tiny.walk()]
[-286, 2, ('short', 1), ('sum', 2), [('divide short', 2, 1), ('add', 2, 1)]]
""",
    "e404": """
>>> from thirtybits.machines import Machine
>>> from thirtybits.bigs import big, plain
>>> from thirtybits.division import modulo
>>> tiny = Machine(8, 4)
>>> [plain(modulo(tiny, big(tiny, -2000), big(tiny, 7))), tiny.tally()[0], tiny.tally()[3], tiny.walk()]
[2, ('short', 1), ('quotient', 2), [('rest short', 2, 1)]]
""",
    "e405": """
>>> from thirtybits.machines import Machine
>>> from thirtybits.bigs import big
>>> from thirtybits.division import long_walk
>>> tiny = Machine(8, 4)
>>> long_walk(tiny, big(tiny, 8388608), big(tiny, 8388609)), tiny.tally()[5]
([(1, 0, True, 0)], ('restored', 1))
""",
    "e406": """
>>> from thirtybits.machines import Machine
>>> from thirtybits.bigs import big
>>> from thirtybits.division import truncated
>>> tiny = Machine(8, 4)
>>> truncated(tiny, big(tiny, 5), big(tiny, 0))
raises ZeroDivisor()
""",
    "e501": """
>>> from thirtybits.bigs import big
>>> from thirtybits.machines import Machine
>>> from thirtybits.shifts import shift_left
>>> tiny = Machine(8, 4)
>>> shift_left(tiny, big(tiny, 2000), 11).digits(), tiny.walk()
([0, 128, 62], [('left', 2, 11)])
""",
    "e502": """
>>> from thirtybits.bigs import big, plain
>>> from thirtybits.machines import Machine
>>> from thirtybits.shifts import shift_right
>>> tiny = Machine(8, 4)
>>> plain(shift_right(tiny, big(tiny, -2000), 4)), tiny.walk()
(-125, [('right', 2, 4)])
""",
    "e503": """
>>> from thirtybits.machines import Machine
>>> from thirtybits.shifts import shift_row_down, shift_row_up
>>> tiny = Machine(8, 4)
>>> shift_row_up(tiny, [208, 7], 6), shift_row_down(tiny, [208, 7], 6)
(([0, 244], 1), ([31, 0], 16))
""",
    "e504": """
>>> from thirtybits.bigs import big
>>> from thirtybits.machines import Machine
>>> from thirtybits.shifts import shift_left
>>> tiny = Machine(8, 4)
>>> shift_left(tiny, big(tiny, 1), 100001)
raises TooGreat()
""",
    "e505": """
>>> from thirtybits.bigs import big
>>> from thirtybits.bitwise import bit_and
>>> from thirtybits.machines import Machine
>>> tiny = Machine(8, 4)
>>> bit_and(tiny, big(tiny, -2000), big(tiny, 70000)).digits(), tiny.walk()
([48, 16, 1], [('and', 2, 3), ('complement', 2, 0)])
""",
    "e506": """
>>> from thirtybits.bitwise import complement
>>> from thirtybits.machines import Machine
>>> tiny = Machine(8, 4)
>>> complement(tiny, [208, 7]), complement(tiny, [0, 0])
(([48, 248], 0), ([0, 0], 1))
""",
    "e507": """
>>> from thirtybits.bigs import big, plain
>>> from thirtybits.bitwise import bit_not, bit_or, bit_xor
>>> from thirtybits.machines import Machine
>>> tiny = Machine(8, 4)
>>> [plain(bit_not(tiny, big(tiny, 2000))), plain(bit_or(tiny, big(tiny, -2000), big(tiny, 7))), plain(bit_xor(tiny, big(tiny, 2000), big(tiny, 256)))]
[-2001, -1993, 1744]
""",
}


def outcome(session):
    """What the last line of a session gives, and what the document says of it."""
    rows = session.strip().splitlines()
    names = {}
    for row in rows[:-2]:
        exec(row.removeprefix(">>> "), names)
    last, told = rows[-2:]
    if not told.startswith("raises "):
        return eval(last.removeprefix(">>> "), names), eval(told)
    expected = eval(told.removeprefix("raises "), vars(errors))
    try:
        eval(last.removeprefix(">>> "), names)
    except errors.BitsError as error:
        return (error.__class__, vars(error)), (expected.__class__, vars(expected))
    raise AssertionError("nothing was raised")


class Examples(unittest.TestCase):
    def test_examples(self):
        self.assertEqual(len(EXAMPLES), 28)
        for name, session in EXAMPLES.items():
            with self.subTest(example=name):
                found, expected = outcome(session)
                self.assertEqual(found, expected)
