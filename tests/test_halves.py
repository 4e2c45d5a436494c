"""Points 50 to 53: the nearest."""

import fractions
import math
import random

from tests.samples import MACHINES, ModelCase, both_signs, edges
from thirtybits.bigs import big, plain
from thirtybits.errors import InvalidBound, TooGreat, ZeroDivisor
from thirtybits.halves import divide_near, nearest, round_tens, true_quotient
from thirtybits.machines import Machine

BOUND = 2 ** 1024 - 2 ** 970


def parts_of(value, side):
    """Side, mantissa and exponent of one of Python's own floats."""
    if value == 0:
        return side, 0, 0
    part, exponent = math.frexp(abs(value))
    mantissa, exponent = int(part * 2 ** 53), exponent - 53
    if exponent < -1074:
        mantissa, exponent = mantissa >> -1074 - exponent, -1074
    return side, mantissa, exponent


def side_of(x, y):
    return -1 if (x < 0) != (y < 0) else 1


class HalfCase(ModelCase):
    def check_quotient(self, machine, x, y):
        """Compare with the model, and with the float that Python makes of the quotient."""
        self.check_call(machine, true_quotient, x, y)
        self.assertEqual(true_quotient(machine, big(machine, x), big(machine, y)), parts_of(x / y, side_of(x, y)),
                         (x, y))

    def check_nearest(self, machine, x):
        self.check_call(machine, nearest, x)
        self.assertEqual(nearest(machine, big(machine, x)), parts_of(float(x), -1 if x < 0 else 1), x)

    def check_near(self, machine, x, y):
        self.check_call(machine, divide_near, x, y)
        quotient, rest = [plain(part) for part in divide_near(machine, big(machine, x), big(machine, y))]
        self.assertEqual(quotient, round(fractions.Fraction(x, y)))
        self.assertEqual(quotient * y + rest, x)

    def check_tens(self, machine, x, places):
        self.check_call(machine, round_tens, x, places)
        self.assertEqual(plain(round_tens(machine, big(machine, x), places)), round(x, -places))


def about_53_bits():
    """Integers of 52 to 56 bits, between two mantissas, halfway, and just beside."""
    found = []
    for bits in (52, 53, 54, 55, 56, 57):
        for n in (1 << bits, (1 << bits) - 1, (3 << bits - 2) + 1):
            found += [n - 3, n - 2, n - 1, n, n + 1, n + 2, n + 3, n + 4, n + 6]
    return found


class TrueQuotient(HalfCase):
    def test_edges(self):
        for parts in ((8, 4), (30, 70)):
            machine = Machine(*parts)
            numbers = both_signs(edges(parts[0])[::3])
            for x in numbers:
                for y in numbers[::2]:
                    if y:
                        self.check_quotient(machine, x, y)

    def test_53_and_54_bits(self):
        machine = Machine(8, 4)
        numbers = about_53_bits()
        for x in numbers:
            for y in (1, -2, 3, 7, 1 << 52, (1 << 53) - 1, -(1 << 53), (1 << 53) + 1, numbers[-1]):
                self.check_quotient(machine, x, y)
                self.check_quotient(machine, y, x)

    def test_short(self):
        top = 2 ** 53 - 1
        for x, y in ((1, 3), (top, 1), (top, -top), (1, top), (-5, top - 2)):
            self.assertEqual(self.told(true_quotient, x, y), (parts_of(x / y, side_of(x, y)), [], {"short": 1}))
        for x, y in ((top + 1, 1), (1, top + 1), (top, top + 1), (-top - 1, 3)):
            self.assertEqual(self.told(true_quotient, x, y)[1][0][0], "ratio")

    def test_zero(self):
        self.assertEqual(self.told(true_quotient, 0, 5), ((1, 0, 0), [], {}))
        self.assertEqual(self.told(true_quotient, 0, -5), ((-1, 0, 0), [], {}))
        self.assertEqual(self.told(true_quotient, 0, -(256 ** 50)), ((-1, 0, 0), [], {}))

    def test_counts(self):
        # D is 40, so that x is shifted by 15 bits: one digit 0 ahead, and 7 bits. 12 digits and the rest are 14.
        walk = [("ratio", 12, 7), ("lift", 12, 7), ("divide long", 14, 7), ("lift", 7, 3), ("lift", 14, 3),
                ("lower", 7, 3)]
        whole, found, counts = self.told(true_quotient, 1 << 92, 1 << 52)
        self.assertEqual((whole, found), ((1, 1 << 52, 40 - 52), walk))
        self.assertEqual(counts, {"shifted": 12 + 7 + 14 + 7, "quotient": 7, "product": 49})
        # One digit: short division of the 8 digits that 54 and 2 bits need.
        walk = [("ratio", 7, 1), ("lift", 7, 2), ("divide short", 7, 1)]
        self.assertEqual(self.told(true_quotient, 1 << 53, 1), ((1, 1 << 52, 1), walk, {"shifted": 7, "quotient": 7}))
        walk = [("ratio", 7, 1), ("lift", 7, 3), ("divide short", 8, 1)]
        self.assertEqual(self.told(true_quotient, 1 << 53, 2), ((1, 1 << 52, 0), walk, {"shifted": 7, "quotient": 8}))

    def test_counts_of_a_shift_down(self):
        # D is 100, and s is 45: five digits and five bits. All bits that are shifted out are 0, and so are five digits.
        walk = [("ratio", 13, 1), ("lower", 8, 5), ("divide short", 7, 1)]
        found = (1, 1 << 52, 48), walk, {"shifted": 8, "looked": 5, "quotient": 7}
        self.assertEqual(self.told(true_quotient, 1 << 100, 1), found)
        for more, looked in ((1, 5), (1 << 7, 5), (1 << 8, 4), (1 << 31, 2), (1 << 32, 1), (1 << 39, 1), (1 << 40, 0),
                             (1 << 44, 0)):
            whole, walk, counts = self.told(true_quotient, (1 << 100) + more, 1)
            self.assertEqual(counts.get("looked", 0), looked, more)

    def test_no_digit_ahead(self):
        # D is 56: s is 1, and nothing stands ahead of the first digit.
        for x in (1 << 56, (1 << 56) + 1):
            whole, walk, counts = self.told(true_quotient, x, 1)
            self.assertEqual((walk[1], counts.get("looked")), (("lower", 8, 1), None))
        # D is 55: s is 0, and the digits are shifted up by 0 bits.
        self.assertEqual(self.told(true_quotient, 1 << 55, 1)[1],
                         [("ratio", 7, 1), ("lift", 7, 0), ("divide short", 7, 1)])

    def test_halves_and_just_beside(self):
        for parts in ((8, 4), (9, 2), (30, 70)):
            machine = Machine(*parts)
            for mantissa in (1 << 52, (1 << 52) + 1, (1 << 53) - 1, (1 << 53) - 2):
                half = 2 * mantissa + 1
                for y in (1, 3, 1 << 20, 10 ** 30 + 1, 7 ** 60):
                    for beside in (0, 1, -1):
                        for scale in (1, 1 << 70):
                            self.check_quotient(machine, half * y * scale + beside, y)
                            self.check_quotient(machine, -half * y * scale - beside, y * 2)
        machine = Machine(8, 4)
        self.assertEqual(true_quotient(machine, big(machine, 2 ** 53 + 1), big(machine, 1)), (1, 2 ** 52, 1))
        self.assertEqual(true_quotient(machine, big(machine, 2 ** 53 + 3), big(machine, 1)), (1, 2 ** 52 + 2, 1))
        self.assertEqual(true_quotient(machine, big(machine, 2 ** 54 - 1), big(machine, -1)), (-1, 2 ** 52, 2))

    def test_least_exponents(self):
        for parts in ((8, 4), (30, 70)):
            machine = Machine(*parts)
            for exponent in (1000, 1020, 1021, 1022, 1023, 1060, 1073, 1074, 1075, 1076, 1077, 1080, 1200):
                for x in (1, 3, 5, (1 << 53) - 1, (1 << 54) - 1, (1 << 60) + 1, 10 ** 30):
                    for y in (1 << exponent, (1 << exponent) - 1, (1 << exponent) + 1, 3 << exponent, -(x << exponent),
                              x << exponent - 1):
                        self.check_quotient(machine, x, y)

    def test_rounded_to_0(self):
        # Half of the least one is rounded to 0, which is even; a bit more is not.
        machine = Machine()
        for x, y, expected in (
            (1, 2 ** 1075, (1, 0, 0)), (-1, 2 ** 1075, (-1, 0, 0)), (1, 2 ** 1075 - 1, (1, 1, -1074)),
            (3, 2 ** 1075, (1, 2, -1074)),
            (1, 2 ** 1074, (1, 1, -1074)), (2 ** 52, 2 ** 1074, (1, 2 ** 52, -1074)),
            (2 ** 53 - 1, -(2 ** 1075), (-1, 2 ** 52, -1074)),
            (1, -(2 ** 5000), (-1, 0, 0)),
        ):
            self.check_quotient(machine, x, y)
            self.assertEqual(true_quotient(machine, big(machine, x), big(machine, y)), expected)

    def test_distances_at_their_bound(self):
        # Below -1075, nothing is counted; from it on, the digits are divided.
        for y, words in ((2 ** 1075, ["ratio", "lift", "divide long", "lift", "lift", "lower"]), (2 ** 1076, []),
                         (2 ** 1076 - 1, None)):
            whole, walk, counts = self.told(true_quotient, 1, y)
            self.assertEqual(whole, (1, 0, 0))
            self.assertEqual([word for word, m, n in walk] == words, words is not None)
        self.assertEqual(self.told(true_quotient, -255, 2 ** 1084), ((-1, 0, 0), [], {}))

    def test_great_quotients(self):
        machine = Machine()
        for y in (1, 3, 7 ** 100):
            for x in ((BOUND - 1) * y, BOUND * y - 1, (2 ** 1024 - 2 ** 971) * y, 2 ** 1023 * y):
                self.check_quotient(machine, x, y)
                self.check_quotient(machine, -x, y)
            for x in (BOUND * y, BOUND * y + 1, 2 ** 1024 * y, 2 ** 5000 * y):
                for sign in (1, -1):
                    self.refused(TooGreat, machine, true_quotient, machine, big(machine, sign * x), big(machine, y))
        self.assertEqual(true_quotient(machine, big(machine, BOUND - 1), big(machine, 1)), (1, 2 ** 53 - 1, 971))

    def test_many_numbers(self):
        chance = random.Random(179)
        for parts in MACHINES:
            machine = Machine(*parts)
            for step in range(150):
                x, y = [chance.getrandbits(chance.choice((40, 54, 60, 100, 300, 1000))) + 1 for k in range(2)]
                self.check_quotient(machine, x * chance.choice((1, -1)), y)

    def test_errors(self):
        machine = Machine(8, 4)
        for x in (0, 1, -70000, 2 ** 3000):
            self.refused(ZeroDivisor, machine, true_quotient, machine, big(machine, x), big(machine, 0))


class Nearest(HalfCase):
    def test_every_number_of_bits(self):
        chance = random.Random(181)
        for bits in (8, 15, 30):
            machine = Machine(bits)
            for length in list(range(70)) + [100, 500, 1000, 1023]:
                for n in (1 << length, (1 << length + 1) - 1, (1 << length) + chance.getrandbits(length)):
                    self.check_nearest(machine, n if n < BOUND else BOUND - 1)
                    self.check_nearest(machine, -n if n < BOUND else 1 - BOUND)

    def test_halves_and_just_beside(self):
        for parts in ((8, 4), (30, 70)):
            machine = Machine(*parts)
            for n in about_53_bits():
                for shift in (0, 1, 7, 8, 100):
                    for beside in (0, 1, -1, 1 << shift):
                        self.check_nearest(machine, (n << shift) + beside)

    def test_counts(self):
        for n, told, walk, counts in (
            (0, (1, 0, 0), [], {"short": 1}), (-255, (-1, 255 << 45, -45), [], {"short": 1}),
            (1, (1, 1 << 52, -52), [], {"short": 1}),
            (256, (1, 1 << 52, -44), [("nearest", 2, 9), ("lift", 2, 6)], {"shifted": 2}),
            (2 ** 53 + 1, (1, 1 << 52, 1), [("nearest", 7, 54), ("lift", 7, 1)], {"shifted": 7}),
            (2 ** 54, (1, 1 << 52, 2), [("nearest", 7, 55), ("lift", 7, 0)], {"shifted": 7}),
            (2 ** 55, (1, 1 << 52, 3), [("nearest", 7, 56), ("lower", 7, 1)], {"shifted": 7}),
            (2 ** 62, (1, 1 << 52, 10), [("nearest", 8, 63), ("lower", 7, 0)], {"shifted": 7, "looked": 1}),
            (2 ** 94, (1, 1 << 52, 42), [("nearest", 12, 95), ("lower", 7, 0)], {"shifted": 7, "looked": 5}),
            (2 ** 94 + 1, (1, 1 << 52, 42), [("nearest", 12, 95), ("lower", 7, 0)], {"shifted": 7, "looked": 5}),
            (2 ** 94 + 2 ** 32, (1, 1 << 52, 42), [("nearest", 12, 95), ("lower", 7, 0)], {"shifted": 7, "looked": 1}),
            (2 ** 95 + 2 ** 40, (1, 1 << 52, 43), [("nearest", 12, 96), ("lower", 7, 1)], {"shifted": 7}),
            (2 ** 95 + 2 ** 41, (1, 1 << 52, 43), [("nearest", 12, 96), ("lower", 7, 1)], {"shifted": 7, "looked": 5}),
        ):
            self.assertEqual(self.told(nearest, n), (told, walk, counts), n)

    def test_great_numbers(self):
        machine = Machine()
        for n in (BOUND - 1, 1 - BOUND):
            self.check_nearest(machine, n)
            self.assertEqual(nearest(machine, big(machine, n))[1:], (2 ** 53 - 1, 971))
        for n in (BOUND, -BOUND, BOUND + 1, 2 ** 1024, -(2 ** 9999)):
            self.refused(TooGreat, machine, nearest, machine, big(machine, n))

    def test_the_same_as_a_quotient_by_1(self):
        machine = Machine(15)
        for n in both_signs(about_53_bits() + edges(15)):
            if n:
                x = big(machine, n)
                self.assertEqual(nearest(machine, x), true_quotient(machine, x, big(machine, 1)))


class DivideNear(HalfCase):
    def test_every_small_pair(self):
        machine = Machine(8, 4)
        for x in range(-40, 41):
            for y in range(-12, 13):
                if y:
                    self.check_near(machine, x, y)

    def test_edges(self):
        machine = Machine(8, 4)
        numbers = both_signs(edges(8)[::3])
        for x in numbers:
            for y in numbers[::2]:
                if y:
                    self.check_near(machine, x, y)

    def test_halves_and_just_beside(self):
        chance = random.Random(191)
        for parts in MACHINES:
            machine = Machine(*parts)
            for step in range(60):
                half = chance.getrandbits(chance.randrange(1, 90)) + 1
                quotient = chance.getrandbits(chance.randrange(90))
                for beside in (-1, 0, 1):
                    x = (2 * quotient + 1) * half + beside
                    self.check_near(machine, x * chance.choice((1, -1)), 2 * half * chance.choice((1, -1)))

    def test_counts(self):
        for x, y, whole, walk, counts in (
            (7, -2, (-4, -1), [("divide short", 1, 1)], {"quotient": 1, "short": 4}),
            (7, 2, (4, -1), [("divide short", 1, 1)], {"quotient": 1, "short": 4}),
            (-7, 2, (-4, 1), [("divide short", 1, 1)], {"quotient": 1, "short": 4}),
            (-7, -2, (4, 1), [("divide short", 1, 1)], {"quotient": 1, "short": 4}),
            (5, 2, (2, 1), [("divide short", 1, 1)], {"quotient": 1, "short": 2}),
            (-5, 2, (-2, -1), [("divide short", 1, 1)], {"quotient": 1, "short": 2}),
            (6, 2, (3, 0), [("divide short", 1, 1)], {"quotient": 1, "short": 1}),
            (0, -5, (0, 0), [], {"short": 1}),
            (3, 5, (1, -2), [], {"short": 4}),
            (2, 5, (0, 2), [], {"short": 2}),
            (-3, 5, (-1, 2), [], {"short": 4}),
            (35000, 70000, (0, 35000), [("left", 2, 1)], {"shifted": 2, "looked": 3}),
            (-35001, -70000, (1, 34999), [("left", 2, 1), ("take", 3, 2)],
             {"shifted": 2, "looked": 3, "short": 1, "sum": 3}),
        ):
            self.assertEqual(self.told(divide_near, x, y), (whole, walk, counts), (x, y))

    def test_errors(self):
        machine = Machine(8, 4)
        for x in (0, 1, -70000):
            self.refused(ZeroDivisor, machine, divide_near, machine, big(machine, x), big(machine, 0))

    def test_kinds(self):
        machine = Machine(8, 4)
        found = divide_near(machine, big(machine, 7), big(machine, 2))
        self.assertEqual((type(found), [type(part) for part in found]), (tuple, [type(big(machine, 1))] * 2))


class RoundTens(HalfCase):
    def test_places(self):
        for parts in ((8, 4), (30, 70)):
            machine = Machine(*parts)
            for x in both_signs([0, 1, 4, 5, 6, 15, 25, 49, 50, 51, 149, 150, 250, 1250, 1350, 99999,
                                 10 ** 30 + 5 * 10 ** 9, 10 ** 40 - 1]):
                for places in (0, 1, 2, 3, 4, 9, 10, 29, 30, 31, 40, 41):
                    self.check_tens(machine, x, places)

    def test_halves_and_just_beside(self):
        machine = Machine(15)
        for places in (1, 5, 12, 30):
            for n in (0, 1, 2, 7, 8, 10 ** 20, 10 ** 20 + 1):
                for beside in (-1, 0, 1):
                    x = (2 * n + 1) * 5 * 10 ** (places - 1) + beside
                    self.check_tens(machine, x, places)
                    self.check_tens(machine, -x, places)

    def test_counts(self):
        walk = [("few", 1, 1), ("divide short", 2, 1), ("take", 2, 1)]
        self.assertEqual(self.told(round_tens, 1250, 2)[:2], (1200, walk))
        self.assertEqual(self.told(round_tens, 1250, 2)[2], {"short": 3, "quotient": 2, "sum": 2})
        self.assertEqual(self.told(round_tens, 1250, 0), (1250, [], {}))
        self.assertEqual(self.told(round_tens, -70000, 0), (-70000, [], {}))
        # 10 is the product of 10 and 1; 10 less 0 is subtracted at once.
        self.assertEqual(self.told(round_tens, 10, 1), (10, [("few", 1, 1), ("divide short", 1, 1)],
                                                        {"short": 3, "quotient": 1}))

    def test_a_thousand_places(self):
        for bits in (8, 30):
            machine = Machine(bits)
            for x in (0, 7, 5 * 10 ** 999, 5 * 10 ** 999 + 1, 15 * 10 ** 999, -(10 ** 1003) + 123):
                self.check_tens(machine, x, 1000)

    def test_errors(self):
        machine = Machine(8, 4)
        x = big(machine, 1250)
        for places in (-1, 1001, 2 ** 70, True, False, None, "2", [2], (2,), x, machine):
            self.assertEqual(self.refused(InvalidBound, machine, round_tens, machine, x, places).argument, "places")
