"""Points 6 to 8: numbers in their normal form, comparing, bits, hashes, signs."""

import random
import unittest
from unittest import mock

from tests.kinds import lists, nested, no_integers
from tests.samples import ModelCase, both_signs, edges
from thirtybits.bigs import (
    Big, absolute, big, bit_count, bit_length, compare, hash_of, negative, normal, plain,
)
from thirtybits.errors import InvalidBound
from thirtybits.machines import Machine

WIDTHS = (8, 9, 15, 29, 30)


def digits_of(n, bits):
    """The digits of an integer, by division."""
    digits = []
    n = abs(n)
    while n:
        n, digit = divmod(n, 1 << bits)
        digits.append(digit)
    return digits


class Making(unittest.TestCase):
    def test_examples_of_the_point(self):
        tiny = Machine(8, 4)
        self.assertEqual(big(tiny, -2000).digits(), [208, 7])
        self.assertEqual(normal(tiny, 1, [5, 0, 0]), big(tiny, 5))

    def test_digits_and_signs(self):
        for bits in WIDTHS:
            machine = Machine(bits)
            for n in both_signs(edges(bits)):
                x = big(machine, n)
                self.assertEqual(x.digits(), digits_of(n, bits))
                self.assertEqual((x.sign(), x.bits(), plain(x)), ((n > 0) - (n < 0), bits, n))

    def test_zero(self):
        zero = big(Machine(8), 0)
        self.assertEqual((zero.sign(), zero.digits(), zero.bits(), plain(zero)), (0, [], 8, 0))

    def test_long_numbers(self):
        for bits in (8, 30):
            machine = Machine(bits)
            for n in both_signs([10 ** 5000 + 7, 2 ** 20000, 2 ** 20000 - 1]):
                self.assertEqual(plain(big(machine, n)), n)
                self.assertEqual(big(machine, n).digits(), digits_of(n, bits))

    def test_normal(self):
        for bits in WIDTHS:
            machine = Machine(bits)
            top = (1 << bits) - 1
            for digits in ([], [1], [top], [0, 1], [0, 0, top], [top, top], [3, 0, 5], [top, 0]):
                for zeros in range(4):
                    for sign in (-1, 1):
                        x = normal(machine, sign, digits + [0] * zeros)
                        n = sign * sum(digit << place * bits for place, digit in enumerate(digits))
                        self.assertEqual((x, plain(x)), (big(machine, n), n))
                        self.assertEqual(x.digits(), digits_of(n, bits))

    def test_normal_of_nothing_but_zeros(self):
        machine = Machine(8)
        for sign in (-1, 0, 1):
            for digits in ([], [0], [0, 0, 0]):
                x = normal(machine, sign, digits)
                self.assertEqual((x.sign(), x.digits(), x), (0, [], big(machine, 0)))

    def test_normal_with_a_wrong_sign(self):
        machine = Machine(8)
        for sign, digits in ((0, [1]), (0, [0, 1, 0]), (2, [1]), (-2, [1]), (2, []), (True, [1]), (False, []), ("1", [1])):
            with self.assertRaises(InvalidBound) as caught:
                normal(machine, sign, digits)
            self.assertEqual(caught.exception.argument, "sign")

    def test_normal_with_wrong_digits(self):
        for bits in WIDTHS:
            machine = Machine(bits)
            base = 1 << bits
            wrong = [[base], [-1], [0, base], [base, 0], [1, -1, 1], [True], [False], [1, 0, False], (1, 2), (), "1", None]
            for digits in wrong + lists():
                for sign in (-1, 0, 1):
                    with self.assertRaises(InvalidBound) as caught:
                        normal(machine, sign, digits)
                    self.assertEqual(caught.exception.argument, "digits")
            self.assertEqual(normal(machine, 1, [base - 1]).digits(), [base - 1])

    def test_lists_belong_to_the_caller(self):
        machine = Machine(8)
        digits = [1, 2, 0]
        x = normal(machine, 1, digits)
        self.assertEqual(digits, [1, 2, 0])
        digits[0] = 9
        x.digits().clear()
        x.digits().append(5)
        self.assertEqual((plain(x), x.digits()), (513, [1, 2]))

    def test_nothing_is_counted(self):
        machine = Machine(8)
        x = big(machine, -70000)
        normal(machine, -1, [1, 2, 0])
        for function in (plain, bit_length, bit_count, hash_of, negative, absolute):
            function(x)
        self.assertEqual((machine.walk(), sum(number for word, number in machine.tally())), ([], 0))

    def test_methods_stand_in_the_class(self):
        for name in ("sign", "digits", "bits", "__eq__"):
            self.assertIn(name, vars(Big))
        self.assertEqual(Big.__module__, "thirtybits.bigs")
        self.assertIs(type(big(Machine(), 5)), Big)


class Equality(unittest.TestCase):
    def test_equal_just_for_equal_numbers(self):
        machine, other = Machine(8, 4), Machine(8, 5)
        numbers = both_signs(edges(8)[:30])
        for a in numbers:
            for b in numbers:
                self.assertIs(big(machine, a) == big(other, b), a == b)
                self.assertIs(big(machine, a) != big(other, b), a != b)

    def test_other_bits(self):
        for n in (0, 1, -5, 2 ** 100):
            self.assertFalse(big(Machine(8), n) == big(Machine(9), n))
            self.assertTrue(big(Machine(8), n) != big(Machine(9), n))

    def test_equal_to_nothing_else(self):
        x = big(Machine(8, 4), 5)
        others = no_integers() + lists() + [5, [5], (8, 1, [5]), Machine(8, 4), mock.ANY, x.digits(), Big]
        for place, other in enumerate(others):
            self.assertTrue((x == other) is False, place)
            self.assertTrue((x != other) is True, place)
        self.assertFalse(big(Machine(), 0) == 0)
        self.assertFalse(big(Machine(), 0) == nested(lambda value: [value]))


class Comparing(ModelCase):
    def check(self, machine, a, b):
        self.check_call(machine, compare, a, b)

    def test_edges(self):
        for bits in (8, 30):
            machine = Machine(bits)
            numbers = both_signs(edges(bits))
            for a in numbers:
                for b in numbers:
                    self.check(machine, a, b)

    def test_equal_upper_digits(self):
        chance = random.Random(7)
        machine = Machine(8)
        for size in range(1, 9):
            for step in range(50):
                a = chance.randrange(256 ** (size - 1), 256 ** size)
                b = a ^ chance.getrandbits(8) << 8 * chance.randrange(size)
                for sign in (1, -1):
                    self.check(machine, sign * a, sign * b)
                    self.check(machine, sign * a, -sign * b)

    def test_counts(self):
        machine = Machine(8, 4)
        for a, b, found, short, looked in (
            (5, 7, -1, 1, 0), (255, -255, 1, 1, 0), (0, 0, 0, 1, 0), (0, -1, 1, 1, 0), (-9, -9, 0, 1, 0),
            (256, 5, 1, 0, 0), (-256, 5, -1, 0, 0), (0, 256, -1, 0, 0), (65536, 256, 1, 0, 0), (-65536, -256, -1, 0, 0),
            (256, 257, -1, 0, 2), (-256, -257, 1, 0, 2), (256, -256, 1, 0, 0), (256, 256, 0, 0, 2), (-300, -300, 0, 0, 2),
            (65536, 131072, -1, 0, 1), (65536, 65536 + 256, -1, 0, 2), (-65537, -65536, -1, 0, 3), (-70000, -70000, 0, 0, 3),
        ):
            machine.reset()
            self.assertEqual(compare(machine, big(machine, a), big(machine, b)), found, (a, b))
            tally = dict(machine.tally())
            self.assertEqual((tally.pop("short"), tally.pop("looked"), sum(tally.values())), (short, looked, 0), (a, b))
            self.assertEqual(machine.walk(), [])


class Bits(unittest.TestCase):
    def test_examples_of_the_point(self):
        self.assertEqual(bit_length(big(Machine(8, 4), -2000)), 11)
        self.assertEqual(hash_of(big(Machine(), 2 ** 61)), 1)

    def test_against_plain_integers(self):
        for bits in WIDTHS:
            machine = Machine(bits)
            for n in both_signs(edges(bits) + [2 ** 61 - 1, 2 ** 122 - 1, 10 ** 300, 2 ** 1000 - 1]):
                x = big(machine, n)
                self.assertEqual(bit_length(x), n.bit_length())
                self.assertEqual(bit_count(x), bin(n).count("1"))
                self.assertEqual(hash_of(x), hash(n))

    def test_hashes(self):
        machine = Machine(8)
        prime = 2 ** 61 - 1
        for n, expected in ((0, 0), (1, 1), (-1, -2), (-2, -2), (2, 2), (prime, 0), (-prime, 0), (prime + 1, 1),
                            (-prime - 1, -2), (prime - 1, prime - 1), (1 - prime, 1 - prime), (2 * prime + 5, 5)):
            self.assertEqual(hash_of(big(machine, n)), expected)

    def test_signs(self):
        for bits in WIDTHS:
            machine = Machine(bits)
            for n in both_signs(edges(bits)):
                x = big(machine, n)
                self.assertEqual((negative(x), absolute(x)), (big(machine, -n), big(machine, abs(n))))
                self.assertEqual((plain(negative(x)), plain(absolute(x)), plain(x)), (-n, abs(n), n))
