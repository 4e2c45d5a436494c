"""The examples of the document, each as it stands there, and those of README.md."""

import doctest
import pathlib
import unittest

from thirtybits import errors

EXAMPLES = {
    "e01": """
>>> from thirtybits.machines import Machine
>>> Machine(7)
raises InvalidMachine(part='bits')
""",
    "e02": """
>>> from thirtybits.machines import Machine
>>> from thirtybits.bigs import big, normal, plain
>>> tiny = Machine(8, 4)
>>> [big(tiny, -2000).digits(), big(tiny, -2000).sign(), plain(normal(tiny, 1, [5, 0, 0])), big(Machine(), 2 ** 60).digits()]
[[208, 7], -1, 5, [0, 0, 1]]
""",
    "e03": """
>>> from thirtybits.machines import Machine
>>> from thirtybits.bigs import big, compare
>>> tiny = Machine(8, 4)
>>> [compare(tiny, big(tiny, -2000), big(tiny, -1999)), tiny.tally()[9], compare(tiny, big(tiny, 5), big(tiny, 7)), tiny.tally()[0]]
[-1, ('looked', 2), -1, ('short', 1)]
""",
    "e04": """
>>> from thirtybits.machines import Machine
>>> from thirtybits.bigs import big, bit_count, bit_length, hash_of
>>> tiny = Machine(8, 4)
>>> [bit_length(big(tiny, -2000)), bit_count(big(tiny, -2000)), hash_of(big(tiny, -1)), hash_of(big(Machine(), 2 ** 61))]
[11, 6, -2, 1]
""",
    "e05": """
>>> from thirtybits.machines import Machine
>>> from thirtybits.bigs import big
>>> from thirtybits.sums import add
>>> tiny = Machine(8, 4)
>>> [add(tiny, big(tiny, 2000), big(tiny, 4000)).digits(), tiny.tally()[1], tiny.walk()]
[[112, 23], ('sum', 2), [('add', 2, 2)]]
""",
    "e06": """
>>> from thirtybits.machines import Machine
>>> from thirtybits.bigs import big, plain
>>> from thirtybits.sums import subtract
>>> tiny = Machine(8, 4)
>>> [plain(subtract(tiny, big(tiny, 65537), big(tiny, 65538))), tiny.tally()[1], tiny.tally()[9], tiny.walk()]
[-1, ('sum', 1), ('looked', 3), [('take', 3, 3)]]
""",
    "e07": """
>>> from thirtybits.machines import Machine
>>> from thirtybits.sums import added_into, taken_from
>>> tiny = Machine(8, 4)
>>> [added_into(tiny, [255, 255, 5, 7], [1]), taken_from(tiny, [0, 0], [1]), tiny.tally()[1]]
[([0, 0, 6, 7], 0), ([255, 255], 1), ('sum', 5)]
""",
    "e08": """
>>> from thirtybits.machines import Machine
>>> from thirtybits.bigs import big
>>> from thirtybits.sums import add
>>> add(Machine(8), big(Machine(9), 5), big(Machine(9), 5))
raises InvalidBound(argument='x')
""",
    "e09": """
>>> from thirtybits.roots import first_root, root_table
>>> [first_root(2 ** 62), first_root(2 ** 64 - 1), root_table()[:3], root_table()[191]]
[2147483648, 4294967295, [128, 129, 130], 255]
""",
    "e10": """
>>> from thirtybits.machines import Machine
>>> from thirtybits.bigs import big, plain
>>> from thirtybits.roots import isqrt, root_estimates
>>> [plain(isqrt(Machine(), big(Machine(), 2 ** 200 - 1))) == 2 ** 100 - 1, root_estimates(big(Machine(), 10 ** 18))]
[True, []]
""",
    "e201": """
>>> from thirtybits.bigs import big, plain
>>> from thirtybits.machines import Machine
>>> from thirtybits.products import multiply_by_rows
>>> tiny = Machine(8, 4)
>>> found = multiply_by_rows(tiny, big(tiny, -1000), big(tiny, 70000))
>>> [plain(found), dict(tiny.tally())["product"]]
[-70000000, 6]
""",
    "e202": """
>>> from thirtybits.bigs import big, plain
>>> from thirtybits.machines import Machine
>>> from thirtybits.products import square_by_rows
>>> tiny = Machine(8, 4)
>>> square_by_rows(tiny, big(tiny, 16777215)).digits()
[1, 0, 0, 254, 255, 255]
""",
    "e203": """
>>> from thirtybits.bigs import big, plain
>>> from thirtybits.machines import Machine
>>> from thirtybits.karatsuba import multiply
>>> tiny = Machine(8, 4)
>>> found = multiply(tiny, big(tiny, -300), big(tiny, 7))
>>> [plain(found), tiny.walk()]
[-2100, [('rows', 1, 2)]]
""",
    "e204": """
>>> from thirtybits.bigs import big, plain
>>> from thirtybits.machines import Machine
>>> from thirtybits.karatsuba import multiply
>>> tiny = Machine(8, 4)
>>> x = big(tiny, 256 ** 5 - 1)
>>> found = multiply(tiny, x, x)
>>> tiny.walk()[:3]
[('karatsuba', 5, 5), ('rows', 3, 3), ('rows', 2, 2)]
""",
    "e205": """
>>> from thirtybits.bigs import big, plain
>>> from thirtybits.machines import Machine
>>> from thirtybits.karatsuba import multiply
>>> tiny = Machine(8, 4)
>>> found = multiply(tiny, big(tiny, 256 ** 5 - 1), big(tiny, 256 ** 10))
>>> [dict(tiny.tally())["product"], dict(tiny.tally())["sum"]]
[5, 11]
""",
    "e206": """
>>> from thirtybits.bigs import big, plain
>>> from thirtybits.machines import Machine
>>> from thirtybits.karatsuba import square
>>> tiny = Machine(8, 4)
>>> found = square(tiny, big(tiny, 256 ** 9 - 1))
>>> tiny.walk()[:3]
[('karatsuba', 9, 9), ('square', 5, 5), ('square', 4, 4)]
""",
    "e207": """
>>> from thirtybits.bigs import big, plain
>>> from thirtybits.machines import Machine
>>> from thirtybits.karatsuba import multiply
>>> tiny = Machine(8, 4)
>>> found = multiply(tiny, big(tiny, 5), big(tiny, -7))
>>> [plain(found), dict(tiny.tally())["short"], tiny.walk()]
[-35, 1, []]
""",
    "e208": """
>>> from thirtybits.bigs import big, plain
>>> from thirtybits.machines import Machine
>>> from thirtybits.texts import to_text
>>> tiny = Machine(8, 4)
>>> found = to_text(tiny, big(tiny, -2000))
>>> [found, dict(tiny.tally())["quotient"]]
['-2000', 3]
""",
    "e209": """
>>> from thirtybits.bigs import big, plain
>>> from thirtybits.machines import Machine
>>> from thirtybits.texts import read_text
>>> tiny = Machine(8, 4)
>>> found = read_text(tiny, " -0x_7d0 ", 16)
>>> [plain(found), tiny.walk()]
[-2000, [('read', 3, 16)]]
""",
    "e210": """
>>> from thirtybits.bigs import big, plain
>>> from thirtybits.machines import Machine
>>> from thirtybits.texts import read_text
>>> tiny = Machine(8, 4)
>>> found = read_text(tiny, "-2_000")
>>> [plain(found), dict(tiny.tally())["product"]]
[-2000, 1]
""",
    "e211": """
>>> from thirtybits.bigs import big, plain
>>> from thirtybits.machines import Machine
>>> from thirtybits.texts import group_of
>>> [group_of(Machine(), 10), group_of(Machine(8, 4), 10)]
[(9, 1000000000), (2, 100)]
""",
    "e301": """
>>> from thirtybits.machines import Machine
>>> from thirtybits.bigs import big, plain
>>> from thirtybits.powers import power
>>> tiny = Machine(8, 4)
>>> held = power(tiny, big(tiny, 3), big(tiny, 5))
>>> [plain(held), tiny.tally()[0], tiny.walk()]
[243, ('short', 3), [('binary', 1, 1)]]
""",
    "e302": """
>>> from thirtybits.machines import Machine
>>> from thirtybits.bigs import big
>>> from thirtybits.powers import power_steps
>>> tiny = Machine(8, 4)
>>> power_steps(tiny, big(tiny, 13))
(1, [0, 1, 0, 0, 1])
""",
    "e303": """
>>> from thirtybits.machines import Machine
>>> from thirtybits.bigs import big, plain
>>> from thirtybits.powers import power
>>> tiny = Machine(8, 4)
>>> held = power(tiny, big(tiny, -2), big(tiny, 3), modulus=big(tiny, 7))
>>> [plain(held), tiny.tally()[0], tiny.walk()]
[6, ('short', 5), [('few', 1, 1)]]
""",
    "e304": """
>>> from thirtybits.machines import Machine
>>> from thirtybits.bigs import big, plain
>>> from thirtybits.powers import inverse
>>> tiny = Machine(8, 4)
>>> held = inverse(tiny, big(tiny, 3), big(tiny, 7))
>>> [plain(held), tiny.tally()[0], tiny.walk()]
[-2, ('short', 10), [('inverse', 1, 1)]]
""",
    "e305": """
>>> from thirtybits.powers import best_width, window_rows
>>> (window_rows(1000, 4), best_width(1000))
([(6, 15), (3, 5)], 2)
""",
    "e306": """
>>> from thirtybits.machines import Machine
>>> from thirtybits.bigs import big, plain
>>> from thirtybits.gcds import gcd
>>> tiny = Machine(8, 4)
>>> held = gcd(tiny, big(tiny, 2 ** 23), big(tiny, 5000000))
>>> [plain(held), [row for row in tiny.tally() if row[1] > 0], tiny.walk()]
[64, [('short', 1), ('product', 12), ('quotient', 16), ('looked', 1)], [('gcd', 3, 3), ('lehmer', 3, 3), ('lehmer', 3, 2), ('euclid', 2, 1)]]
""",
    "e307": """
>>> from thirtybits.machines import Machine
>>> from thirtybits.bigs import big
>>> from thirtybits.gcds import lehmer_step
>>> tiny = Machine(8, 4)
>>> lehmer_step(tiny, big(tiny, 2 ** 23), big(tiny, 5000000))
([1, 1, 2, 9, 1], (-28, 47, 31, -52))
""",
    "e308": """
>>> from thirtybits.machines import Machine
>>> from thirtybits.bigs import big, plain
>>> from thirtybits.gcds import lcm
>>> tiny = Machine(8, 4)
>>> held = lcm(tiny, big(tiny, 12), big(tiny, 18))
>>> [plain(held), [row for row in tiny.tally() if row[1] > 0], tiny.walk()]
[36, [('short', 3), ('quotient', 3)], [('euclid', 1, 1)]]
""",
    "e309": """
>>> from thirtybits.machines import Machine
>>> from thirtybits.bigs import big, plain
>>> from thirtybits.gcds import gcd_many
>>> tiny = Machine(8, 4)
>>> held = gcd_many(tiny, [big(tiny, 12), big(tiny, 5), big(tiny, 100)])
>>> [plain(held), [row for row in tiny.tally() if row[1] > 0], tiny.walk()]
[1, [('short', 1), ('quotient', 3)], [('euclid', 1, 1)]]
""",
    "e310": """
>>> from thirtybits.machines import Machine
>>> from thirtybits.bigs import big, plain
>>> from thirtybits.trees import halves_divide
>>> tiny = Machine(8, 4)
>>> pair = halves_divide(tiny, big(tiny, 25600), big(tiny, 143), limit=4)
>>> [plain(pair[0]), plain(pair[1]), tiny.tally()[4], [row for row in tiny.walk() if row[0] in ('halves', 'thirds')]]
[179, 3, ('corrected', 1), [('halves', 7, 8), ('halves', 15, 8), ('thirds', 7, 4), ('halves', 7, 4), ('thirds', 5, 4), ('halves', 5, 4)]]
""",
    "e311": """
>>> from thirtybits.machines import Machine
>>> from thirtybits.bigs import plain
>>> from thirtybits.trees import halves_read
>>> tiny = Machine(8, 4)
>>> held = halves_read(tiny, '002000', limit=2)
>>> [plain(held), [row for row in tiny.walk() if row[0] == 'part']]
[2000, [('part', 0, 6), ('part', 3, 6), ('part', 5, 6), ('part', 3, 5), ('part', 0, 3), ('part', 2, 3), ('part', 0, 2)]]
""",
    "e312": """
>>> from thirtybits.machines import Machine
>>> from thirtybits.bigs import plain
>>> from thirtybits.trees import factorial
>>> tiny = Machine(8, 4)
>>> held = factorial(tiny, 25)
>>> [plain(held), [row for row in tiny.walk() if row[0] == 'odd part']]
[15511210043330985984000000, [('odd part', 3, 5), ('odd part', 5, 7), ('odd part', 7, 13), ('odd part', 13, 27)]]
""",
    "e313": """
>>> from thirtybits.machines import Machine
>>> from thirtybits.bigs import plain
>>> from thirtybits.trees import comb, perm
>>> tiny = Machine(8, 4)
>>> held = [plain(comb(tiny, 5, 3)), plain(perm(tiny, 5, 3))]
>>> held + tiny.walk()
[10, 60, ('comb', 5, 2), ('perm', 5, 3)]
""",
    "e314": """
>>> from thirtybits.machines import Machine
>>> from thirtybits.bigs import plain
>>> from thirtybits.trees import comb
>>> tiny = Machine(8, 4)
>>> held = comb(tiny, 70, 35)
>>> [plain(held), [row for row in tiny.walk() if row[0] == 'comb']]
[112186277816662845432, [('comb', 70, 35), ('comb', 70, 17), ('comb', 53, 18), ('comb', 35, 17)]]
""",
    "e401": """
>>> from thirtybits.machines import Machine
>>> from thirtybits.bigs import big, plain
>>> from thirtybits.division import truncated
>>> tiny = Machine(8, 4)
>>> pair = truncated(tiny, big(tiny, -2000), big(tiny, 7))
>>> [plain(pair[0]), plain(pair[1]), tiny.tally()[3], tiny.walk()]
[-285, -5, ('quotient', 2), [('divide short', 2, 1)]]
""",
    "e402": """
>>> from thirtybits.machines import Machine
>>> from thirtybits.bigs import big, plain
>>> from thirtybits.division import truncated
>>> tiny = Machine(8, 4)
>>> pair = truncated(tiny, big(tiny, 65536), big(tiny, 258))
>>> [plain(pair[0]), plain(pair[1]), tiny.tally()[2], tiny.tally()[6], tiny.walk()]
[254, 4, ('product', 2), ('shifted', 7), [('divide long', 3, 2), ('lift', 2, 7), ('lift', 3, 7), ('lower', 2, 7)]]
""",
    "e403": """
>>> from thirtybits.machines import Machine
>>> from thirtybits.bigs import big, plain
>>> from thirtybits.division import divide_both
>>> tiny = Machine(8, 4)
>>> pair = divide_both(tiny, big(tiny, -2000), big(tiny, 7))
>>> [plain(pair[0]), plain(pair[1]), tiny.tally()[0], tiny.tally()[1], tiny.walk()]
[-286, 2, ('short', 1), ('sum', 2), [('divide short', 2, 1), ('add', 2, 1)]]
""",
    "e404": """
>>> from thirtybits.machines import Machine
>>> from thirtybits.bigs import big, plain
>>> from thirtybits.division import modulo
>>> tiny = Machine(8, 4)
>>> [plain(modulo(tiny, big(tiny, -2000), big(tiny, 7))), tiny.tally()[0], tiny.tally()[3], tiny.walk()]
[2, ('short', 1), ('quotient', 2), [('rest short', 2, 1)]]
""",
    "e405": """
>>> from thirtybits.machines import Machine
>>> from thirtybits.bigs import big
>>> from thirtybits.division import long_walk
>>> tiny = Machine(8, 4)
>>> long_walk(tiny, big(tiny, 8388608), big(tiny, 8388609)), tiny.tally()[5]
([(1, 0, True, 0)], ('restored', 1))
""",
    "e406": """
>>> from thirtybits.machines import Machine
>>> from thirtybits.bigs import big
>>> from thirtybits.division import truncated
>>> tiny = Machine(8, 4)
>>> truncated(tiny, big(tiny, 5), big(tiny, 0))
raises ZeroDivisor()
""",
    "e407": """
>>> from thirtybits.machines import Machine
>>> from thirtybits.bigs import big
>>> from thirtybits.halves import true_quotient
>>> tiny = Machine(8, 4)
>>> true_quotient(tiny, big(tiny, 1), big(tiny, 3)), true_quotient(tiny, big(tiny, 0), big(tiny, -5)), tiny.tally()[0]
((1, 6004799503160661, -54), (-1, 0, 0), ('short', 1))
""",
    "e408": """
>>> from thirtybits.machines import Machine
>>> from thirtybits.bigs import big
>>> from thirtybits.halves import nearest
>>> tiny = Machine(8, 4)
>>> nearest(tiny, big(tiny, 2 ** 53 + 1)), tiny.tally()[6], tiny.walk()
((1, 4503599627370496, 1), ('shifted', 7), [('nearest', 7, 54), ('lift', 7, 1)])
""",
    "e409": """
>>> from thirtybits.machines import Machine
>>> from thirtybits.bigs import big, plain
>>> from thirtybits.halves import divide_near
>>> tiny = Machine(8, 4)
>>> pair = divide_near(tiny, big(tiny, 7), big(tiny, -2))
>>> [plain(pair[0]), plain(pair[1]), tiny.tally()[0], tiny.tally()[3]]
[-4, -1, ('short', 4), ('quotient', 1)]
""",
    "e410": """
>>> from thirtybits.machines import Machine
>>> from thirtybits.bigs import big, plain
>>> from thirtybits.halves import round_tens
>>> tiny = Machine(8, 4)
>>> plain(round_tens(tiny, big(tiny, 1250), 2)), tiny.walk()
(1200, [('few', 1, 1), ('divide short', 2, 1), ('take', 2, 1)])
""",
    "e501": """
>>> from thirtybits.bigs import big
>>> from thirtybits.machines import Machine
>>> from thirtybits.shifts import shift_left
>>> tiny = Machine(8, 4)
>>> shift_left(tiny, big(tiny, 2000), 11).digits(), tiny.walk()
([0, 128, 62], [('left', 2, 11)])
""",
    "e502": """
>>> from thirtybits.bigs import big, plain
>>> from thirtybits.machines import Machine
>>> from thirtybits.shifts import shift_right
>>> tiny = Machine(8, 4)
>>> plain(shift_right(tiny, big(tiny, -2000), 4)), tiny.walk()
(-125, [('right', 2, 4)])
""",
    "e503": """
>>> from thirtybits.machines import Machine
>>> from thirtybits.shifts import shift_row_down, shift_row_up
>>> tiny = Machine(8, 4)
>>> shift_row_up(tiny, [208, 7], 6), shift_row_down(tiny, [208, 7], 6)
(([0, 244], 1), ([31, 0], 16))
""",
    "e504": """
>>> from thirtybits.bigs import big
>>> from thirtybits.machines import Machine
>>> from thirtybits.shifts import shift_left
>>> tiny = Machine(8, 4)
>>> shift_left(tiny, big(tiny, 1), 100001)
raises TooGreat()
""",
    "e505": """
>>> from thirtybits.bigs import big
>>> from thirtybits.bitwise import bit_and
>>> from thirtybits.machines import Machine
>>> tiny = Machine(8, 4)
>>> bit_and(tiny, big(tiny, -2000), big(tiny, 70000)).digits(), tiny.walk()
([48, 16, 1], [('and', 2, 3), ('complement', 2, 0)])
""",
    "e506": """
>>> from thirtybits.bitwise import complement
>>> from thirtybits.machines import Machine
>>> tiny = Machine(8, 4)
>>> complement(tiny, [208, 7]), complement(tiny, [0, 0])
(([48, 248], 0), ([0, 0], 1))
""",
    "e507": """
>>> from thirtybits.bigs import big, plain
>>> from thirtybits.bitwise import bit_not, bit_or, bit_xor
>>> from thirtybits.machines import Machine
>>> tiny = Machine(8, 4)
>>> [plain(bit_not(tiny, big(tiny, 2000))), plain(bit_or(tiny, big(tiny, -2000), big(tiny, 7))), plain(bit_xor(tiny, big(tiny, 2000), big(tiny, 256)))]
[-2001, -1993, 1744]
""",
    "e508": """
>>> from thirtybits.bigs import big
>>> from thirtybits.byterows import byte_length, to_bytes
>>> from thirtybits.machines import Machine
>>> tiny = Machine(8, 4)
>>> to_bytes(tiny, big(tiny, -2000), 4, signed=True), byte_length(big(tiny, 255)), byte_length(big(tiny, 255), signed=True)
([255, 255, 248, 48], 1, 2)
""",
    "e509": """
>>> from thirtybits.bigs import plain
>>> from thirtybits.byterows import from_bytes
>>> from thirtybits.machines import Machine
>>> tiny = Machine(8, 4)
>>> plain(from_bytes(tiny, [255, 255, 248, 48], signed=True)), plain(from_bytes(tiny, [208, 7], "little"))
(-2000, 2000)
""",
    "e510": """
>>> from thirtybits.bigs import big
>>> from thirtybits.byterows import to_bytes
>>> from thirtybits.machines import Machine
>>> tiny = Machine(8, 4)
>>> to_bytes(tiny, big(tiny, 256))
raises TooGreat()
""",
    "e511": """
>>> from thirtybits.desks import Desk
>>> d = Desk(8, 4)
>>> d.put('x', 2000)
>>> [d.do('y', ('left', 'x', 11)), d.walk(), d.costs(), d.dearest('shifted'), d.undo(), d.names()]
[4096000, [('left', 2, 11)], [[], [('shifted', 2)]], 1, True, ['x']]
""",
    "e512": """
>>> from thirtybits.desks import Desk
>>> d = Desk(8, 4)
>>> d.do('y', ('square', 'x'))
raises InvalidCall(call=('square', 'x'))
""",
}


def outcome(session):
    """What the last line of a session gives, and what the document says of it."""
    rows = session.strip().splitlines()
    names = {}
    for row in rows[:-2]:
        exec(row.removeprefix(">>> "), names)
    last, told = rows[-2:]
    if not told.startswith("raises "):
        return eval(last.removeprefix(">>> "), names), eval(told)
    expected = eval(told.removeprefix("raises "), vars(errors))
    try:
        eval(last.removeprefix(">>> "), names)
    except errors.BitsError as error:
        return (error.__class__, vars(error)), (expected.__class__, vars(expected))
    raise AssertionError("nothing was raised")


class Examples(unittest.TestCase):
    def test_examples(self):
        self.assertEqual(len(EXAMPLES), 57)
        for name, session in EXAMPLES.items():
            with self.subTest(example=name):
                found, expected = outcome(session)
                self.assertEqual(found, expected)

    def test_examples_of_the_readme(self):
        readme = pathlib.Path(__file__).parent.parent / "README.md"
        found = doctest.testfile(str(readme), module_relative=False)
        self.assertGreater(found.attempted, 10)
        self.assertEqual(found.failed, 0)
