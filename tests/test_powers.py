"""Points 31 to 35: powers, the ways of exponents, inverses and rows of bits."""

import itertools
import math
import random
import re
import unittest

from tests.samples import MACHINES, ModelCase, counted
from thirtybits.bigs import big, plain
from thirtybits.errors import InvalidBound, TooGreat, ZeroDivisor
from thirtybits.machines import Machine
from thirtybits.powers import best_width, inverse, power, power_steps, window_rows


class PowerCase(ModelCase):
    def check(self, machine, x, y, modulus=None):
        self.check_call(machine, power, x, y, modulus=modulus)
        found = plain(power(machine, *[big(machine, n) for n in (x, y)],
                            modulus=self.argument(machine, "modulus", modulus)))
        if modulus is None:
            self.assertEqual(found, x ** y)
            return
        self.assertEqual(found, pow(x, y, modulus))
        self.assertTrue(0 <= found < modulus or modulus < found <= 0)

    def power_told(self, x, y, modulus=None):
        return self.told(power, x, y, modulus=modulus)

    def way(self, machine, x, y, modulus=None):
        """The one way that a power adds to the walk."""
        machine.reset()
        power(machine, big(machine, x), big(machine, y), modulus=self.argument(machine, "modulus", modulus))
        ways = [step for step in machine.walk() if step[0] in ("few", "binary", "window")]
        self.assertEqual(len(ways), 1)
        return ways[0]


class AgainstTheModel(PowerCase):
    def test_small_numbers(self):
        for parts in ((8, 4), (30, 70)):
            machine = Machine(*parts)
            for x in (0, 1, -1, 2, -3, 255, -256, 70000):
                for y in (0, 1, 2, 3, 4, 5, 8, 13, 63, 100):
                    self.check(machine, x, y)
                    for modulus in (1, -1, 2, -2, 7, -255, 256, 65537, -(2 ** 40)):
                        self.check(machine, x, y, modulus)

    def test_many_numbers_without_a_modulus(self):
        chance = random.Random(71)
        for parts in MACHINES + ((8, 2), (30, 3)):
            machine = Machine(*parts)
            for step in range(30):
                x = chance.getrandbits(chance.randrange(1, 200)) * chance.choice((1, -1))
                self.check(machine, x, chance.randrange(40))

    def test_many_numbers_with_a_modulus(self):
        chance = random.Random(73)
        for parts in MACHINES + ((8, 2),):
            machine = Machine(*parts)
            for step in range(40):
                x = chance.getrandbits(chance.randrange(150)) * chance.choice((1, -1))
                y = chance.getrandbits(chance.randrange(90))
                self.check(machine, x, y, (chance.getrandbits(chance.randrange(120)) + 1) * chance.choice((1, -1)))

    def test_long_exponents(self):
        chance = random.Random(79)
        for parts in ((8, 4), (29, 20), (30, 70)):
            machine = Machine(*parts)
            for bits in (61, 64, 65, 120, 300):
                for modulus in (2 ** 31 - 1, -(10 ** 12), 3):
                    self.check(machine, chance.getrandbits(80), chance.getrandbits(bits) | 1 << (bits - 1), modulus)

    def test_negative_exponents(self):
        chance = random.Random(83)
        for parts in ((8, 4), (30, 70)):
            machine = Machine(*parts)
            for step in range(60):
                x, modulus = [chance.getrandbits(chance.randrange(1, 100)) * chance.choice((1, -1)) for k in range(2)]
                if modulus and math.gcd(x, modulus) == 1:
                    self.check(machine, x, -chance.getrandbits(chance.randrange(1, 80)), modulus)

    def test_exponents_of_some_forms(self):
        machine = Machine(8, 4)
        for bits in (64, 72, 75):
            for y in (2 ** bits, 2 ** bits - 1, 2 ** bits + 1, int("10" * (bits // 2), 2),
                      int("100000" * (bits // 6), 2),
                      int("11111" * (bits // 5), 2), (2 ** 5 - 1) << bits):
                self.check(machine, 3, y, 1000003)
                self.check(machine, 1, y)
                self.check(machine, 0, y)
                self.check(machine, -1, y)


class Ways(PowerCase):
    def test_few(self):
        for x in (0, 5, -7):
            self.assertEqual(self.power_told(x, 0), (1, [("few", 1 if x else 0, 0)], {}))
            self.assertEqual(self.power_told(x, 1), (x, [("few", 1 if x else 0, 1)], {"short": 1}))
            self.assertEqual(self.power_told(x, 2), (x * x, [("few", 1 if x else 0, 1)], {"short": 1}))
        self.assertEqual(self.power_told(-7, 3), (-343, [("few", 1, 1)], {"short": 2}))
        # The square has two digits, so that the product goes by rows.
        self.assertEqual(self.power_told(100, 3), (10 ** 6, [("few", 1, 1), ("rows", 1, 2)],
                                                   {"short": 1, "product": 2}))
        found = -70000, [("few", 3, 1), ("rows", 1, 3)], {"product": 3}
        self.assertEqual(self.power_told(-70000, 1), found)

    def test_binary(self):
        self.assertEqual(self.power_told(3, 5), (243, [("binary", 1, 1)], {"short": 3}))
        self.assertEqual(self.power_told(2, 4), (16, [("binary", 1, 1)], {"short": 2}))
        walk = [("binary", 1, 1), ("square", 2, 2)]
        self.assertEqual(self.power_told(-16, 4), (65536, walk, {"short": 1, "product": 3}))

    def test_window(self):
        # 64 bits, and only the first one is 1: 16 for the table, 8 squares and a product, and 56 squares of 1 more.
        y = 2 ** 63
        self.assertEqual(self.power_told(1, y), (1, [("window", 1, 8)], {"short": 16 + 1 + 64}))
        # Seven bits 0 ahead of the first 1, each of which is a square of z, which is 1 still.
        self.assertEqual(self.power_told(-1, 2 ** 56), (1, [("window", 1, 8)], {"short": 16 + 1 + 64}))
        self.assertEqual(self.power_told(0, 2 ** 64 - 1), (0, [("window", 0, 8)], {"short": 16 + 13 + 64}))
        y = int("1" * 64, 2)
        self.assertEqual(self.power_told(1, y), (1, [("window", 1, 8)], {"short": 16 + 13 + 64}))

    def test_bounds_of_the_ways(self):
        for bits, most in ((8, 7), (9, 6), (10, 6), (11, 5), (15, 4), (16, 3), (20, 3), (21, 2), (29, 2), (30, 2)):
            machine = Machine(bits)
            for modulus in (7, -70000):
                self.assertEqual(self.way(machine, 3, 3, modulus), ("few", 1, 1))
                self.assertEqual(self.way(machine, 3, 4, modulus), ("binary", 1, 1))
                for y in (1 << (most - 1) * bits, (1 << most * bits) - 1):
                    self.assertEqual(self.way(machine, 3, y, modulus), ("binary", 1, most))
                for y in (1 << most * bits, (1 << (most + 1) * bits) - 1):
                    self.assertEqual(self.way(machine, 3, y, modulus), ("window", 1, most + 1))
            self.check(machine, 3, (1 << most * bits) - 1, 1000003)
            self.check(machine, 3, 1 << most * bits, 1000003)

    def test_steps_of_the_walk(self):
        # The walk of 5 ** 1000 has the way first, then what squares and products enter.
        whole, walk, counts = self.power_told(5, 1000)
        self.assertEqual((whole, walk[0]), (5 ** 1000, ("binary", 1, 2)))
        # 5 ** 6 is the first power of two digits; 5 ** 7 has three, and 5 ** 14 five.
        self.assertEqual(walk[1:4], [("rows", 1, 2), ("square", 3, 3), ("rows", 1, 5)])


class Modulus(PowerCase):
    def test_one_and_minus_one(self):
        for x, y in ((0, 0), (5, 0), (5, 3), (0, -3), (4, -1), (-(10 ** 30), 2 ** 4001), (2, -(2 ** 5000))):
            for modulus in (1, -1):
                self.assertEqual(self.power_told(x, y, modulus), (0, [], {}))

    def test_either_sign(self):
        self.assertEqual(self.power_told(-2, 3, 7), (6, [("few", 1, 1)], {"short": 5}))
        self.assertEqual(self.power_told(-2, 3, -7), (-1, [("few", 1, 1)], {"short": 6}))
        # A result 0 stays 0.
        self.assertEqual(self.power_told(6, 2, -9), (0, [("few", 1, 1)], {"short": 2}))
        self.assertEqual(self.power_told(6, 2, 9), (0, [("few", 1, 1)], {"short": 2}))
        self.assertEqual(self.power_told(5, 0, -9), (-8, [("few", 1, 0)], {"short": 1}))
        self.assertEqual(self.power_told(5, 0, 9), (1, [("few", 1, 0)], {}))

    def test_a_base_that_becomes_its_rest(self):
        # One digit each: it stays as it is, and the product is brought down.
        self.assertEqual(self.power_told(200, 1, 7), (4, [("few", 1, 1)], {"short": 2}))
        # A negative one, and one of more digits.
        self.assertEqual(self.power_told(-200, 1, 7), (3, [("few", 1, 1)], {"short": 3}))
        walk = [("rest short", 2, 1), ("few", 1, 1)]
        self.assertEqual(self.power_told(2000, 1, 7), (5, walk, {"quotient": 2, "short": 2}))
        walk = [("few", 3, 1), ("rows", 1, 3), ("divide long", 3, 3), ("lift", 3, 7), ("lift", 3, 7), ("lower", 3, 7)]
        whole, found, counts = self.power_told(16000000, 1, 70000)
        self.assertEqual((whole, found), (16000000 % 70000, walk))
        self.assertEqual(self.way(Machine(8, 4), 256 ** 3 - 1, 5, 70000), ("binary", 3, 1))
        self.assertEqual(self.way(Machine(8, 4), 256 ** 3, 5, 70000), ("binary", 2, 1))
        self.assertEqual(self.way(Machine(8, 4), 256 ** 3, 5, 256 ** 3 - 1), ("binary", 1, 1))

    def test_order_of_the_walk(self):
        whole, walk, counts = self.power_told(1000, -5, 77777)
        words = [word for word, m, n in walk]
        self.assertEqual(whole, pow(1000, -5, 77777))
        self.assertEqual((words[0], words.count("inverse"), words.count("binary")), ("inverse", 1, 1))
        whole, walk, counts = self.power_told(3, -1, 7)
        # The inverse -2 becomes its rest 5, and 1 times it is brought down.
        self.assertEqual((whole, walk, counts), (5, [("inverse", 1, 1), ("few", 1, 1)], {"short": 10 + 1 + 2}))
        self.assertEqual(self.power_told(3, -1, -7), (-2, [("inverse", 1, 1), ("few", 1, 1)],
                                                      {"short": 10 + 1 + 2 + 1}))


class Checks(PowerCase):
    def error(self, kind, x, y, modulus=None, bits=8):
        machine = Machine(bits)
        x, y = big(machine, x), big(machine, y)
        return self.refused(kind, machine, power, machine, x, y, modulus=self.argument(machine, "modulus", modulus))

    def test_negative_exponents_without_a_modulus(self):
        for x in (0, 1, -1, 2, 10 ** 50):
            for y in (-1, -2, -(2 ** 5000)):
                self.assertEqual(self.error(InvalidBound, x, y).argument, "y")

    def test_modulus_zero(self):
        for x, y in ((0, 0), (2, 5), (2, -5), (2, 2 ** 4000)):
            self.error(ZeroDivisor, x, y, 0)

    def test_no_inverse(self):
        for x, modulus in ((0, 2), (0, -5), (4, 2), (6, 9), (-6, 9), (6, -9), (10 ** 30, 10 ** 20 + 5), (2, 2 ** 100)):
            for y in (-1, -7, -(2 ** 4001)):
                self.assertEqual(self.error(InvalidBound, x, y, modulus).argument, "x")

    def test_long_exponents(self):
        longest = 2 ** 4000 - 1
        self.assertEqual(self.power_told(1, longest)[0], 1)
        self.assertEqual(self.power_told(-1, longest)[0], -1)
        self.assertEqual(self.power_told(0, longest)[0], 0)
        self.assertEqual(self.power_told(5, longest, 7)[0], pow(5, longest, 7))
        self.assertEqual(self.power_told(5, -longest, 7)[0], pow(5, -longest, 7))
        for x, y, modulus in ((1, 2 ** 4000, None), (0, 2 ** 4000, None), (-1, 2 ** 4000, None), (5, 2 ** 4000, 7),
                              (5, -(2 ** 4000), 7), (5, 2 ** 4000, -7), (0, 2 ** 4000, 2)):
            self.error(TooGreat, x, y, modulus)

    def test_long_results(self):
        for x, y in ((2, 50000), (-2, 50000), (3, 50000), (4, 33333), (2 ** 1000 - 1, 100), (2 ** 99999, 1),
                     (7, 33333)):
            machine = Machine()
            self.assertEqual(plain(power(machine, big(machine, x), big(machine, y))), x ** y)
        for x, y in ((2, 50001), (-2, 50001), (3, 50001), (4, 33334), (2 ** 1000, 100), (2 ** 100000, 1),
                     (2, 2 ** 3999)):
            self.error(TooGreat, x, y, bits=30)
        machine = Machine()
        for x, y in ((2 ** 100001, 0), (5, 0), (1, 100001), (-1, 100001), (0, 100001)):
            self.assertEqual(plain(power(machine, big(machine, x), big(machine, y))), x ** y)

    def test_a_modulus_bounds_no_result(self):
        machine = Machine()
        found = power(machine, big(machine, 3), big(machine, 10 ** 30), modulus=big(machine, 10 ** 9 + 7))
        self.assertEqual(plain(found), pow(3, 10 ** 30, 10 ** 9 + 7))

    def test_wrong_modulus(self):
        machine = Machine(8)
        one = big(machine, 1)
        for modulus in (False, True, 0, 1, 7, "7", (), [], {}, big(Machine(9), 7), machine):
            for y in (one, big(machine, -1), big(machine, 2 ** 4000)):
                error = self.refused(InvalidBound, machine, power, machine, one, y, modulus=modulus)
                self.assertEqual(error.argument, "modulus")
        for x, y, argument in ((big(Machine(9), 1), one, "x"), (one, 5, "y"), (None, None, "x")):
            error = self.refused(InvalidBound, machine, power, machine, x, y, modulus=big(Machine(9), 0))
            self.assertEqual(error.argument, argument)

    def test_a_modulus_of_none_is_none(self):
        machine = Machine(8)
        x, y = big(machine, 2), big(machine, 5)
        self.assertEqual(power(machine, x, y, modulus=None), power(machine, x, y))
        with self.assertRaises(TypeError):
            power(machine, x, y, None)


def steps_by_text(bits, y):
    """Start and steps of an exponent, from its bits as a text."""
    if y <= 3:
        return [(0, []), (0, [1]), (1, [0]), (1, [0, 1])][y]
    size = -(-y.bit_length() // bits)
    if size <= 60 // bits:
        return 1, list(itertools.chain(*[[0, 1] if bit == "1" else [0] for bit in f"{y:b}"[1:]]))
    steps = []
    for row in re.findall("0|1[01]{0,4}", f"{y:0{size * bits}b}"):
        kept = row.rstrip("0")
        steps += [0] * len(kept) + ([int(kept, 2)] if kept else []) + [0] * (len(row) - len(kept))
    return 0, steps


class PowerSteps(PowerCase):
    def check_steps(self, bits, y):
        machine = Machine(bits)
        found = power_steps(machine, big(machine, y))
        self.assertEqual(found, steps_by_text(bits, y))
        self.assertEqual(([type(part) for part in found], type(found)), ([int, list], tuple))
        self.assertEqual((counted(machine), machine.walk()), ({}, []))
        exponent = found[0]
        for step in found[1]:
            exponent = exponent + step if step else 2 * exponent
        self.assertEqual(exponent, y)

    def test_small_exponents(self):
        machine = Machine(8, 4)
        told = [power_steps(machine, big(machine, y)) for y in (0, 1, 2, 3, 4, 5, 6, 13)]
        self.assertEqual(told, [
            (0, []), (0, [1]), (1, [0]), (1, [0, 1]), (1, [0, 0]), (1, [0, 0, 1]), (1, [0, 1, 0]), (1, [0, 1, 0, 0, 1]),
        ])

    def test_window(self):
        machine = Machine(30)
        # 61 bits in three digits: 29 bits 0 ahead, then the rows 10000 and (at the end) 1.
        told = power_steps(machine, big(machine, 2 ** 60 + 1))
        self.assertEqual(told, (0, [0] * 29 + [0, 1] + [0] * 60 + [1]))
        # The rows 11111, 10101, 1 and then bits 0.
        y = int("11111" + "10101" + "1" + "0" * 59, 2)
        steps = [0] * 20 + [0] * 5 + [31] + [0] * 5 + [21] + [0] + [1] + [0] * 59
        self.assertEqual(power_steps(machine, big(machine, y)), (0, steps))

    def test_many_exponents(self):
        chance = random.Random(89)
        for bits in (8, 9, 15, 20, 29, 30):
            for length in list(range(1, 70, 5)) + [56, 57, 60, 61, 90, 200, 4000]:
                for step in range(4):
                    self.check_steps(bits, chance.getrandbits(length))
                self.check_steps(bits, 2 ** length - 1)
                self.check_steps(bits, 2 ** (length - 1))

    def test_the_steps_are_those_of_the_power(self):
        # With x = 1 all are compact, so that each one counts "short" once; the table takes 16.
        for bits in (8, 30):
            machine = Machine(bits)
            for y in (0, 1, 2, 3, 4, 100, 2 ** 56 - 1, 2 ** 56, 2 ** 60 - 1, 2 ** 60, 3 ** 100):
                start, steps = power_steps(machine, big(machine, y))
                machine.reset()
                power(machine, big(machine, 1), big(machine, y))
                table = 16 if machine.walk()[0][0] == "window" else 0
                self.assertEqual(counted(machine).get("short", 0), len(steps) + table)

    def test_errors(self):
        for bits in (8, 30):
            machine = Machine(bits)
            for y in (-1, -3, -(2 ** 5000)):
                self.assertEqual(self.refused(InvalidBound, machine, power_steps, machine, big(machine, y)).argument,
                                 "y")
            for y in (2 ** 4000, 2 ** 5000):
                self.refused(TooGreat, machine, power_steps, machine, big(machine, y))
            self.assertEqual(len(power_steps(machine, big(machine, 2 ** 4000 - 1))[1]), -(-4000 // bits) * bits + 800)

    def test_new_lists(self):
        machine = Machine(8)
        for y in (0, 1, 2, 3, 4, 2 ** 60):
            first = power_steps(machine, big(machine, y))
            kept = list(first[1])
            first[1].append("more")
            self.assertEqual(power_steps(machine, big(machine, y))[1], kept)


class Inverse(PowerCase):
    def check_inverse(self, machine, x, y):
        self.check_call(machine, inverse, x, y)
        found = plain(inverse(machine, big(machine, x), big(machine, y)))
        self.assertEqual(x * found % y, 1 % y)
        self.assertLessEqual(abs(found), y)

    def test_every_small_pair(self):
        machine = Machine(8, 4)
        for y in range(1, 40):
            for x in range(-60, 60):
                if math.gcd(x, y) == 1:
                    self.check_inverse(machine, x, y)

    def test_many_numbers(self):
        chance = random.Random(97)
        for parts in MACHINES:
            machine = Machine(*parts)
            for step in range(60):
                x = chance.getrandbits(chance.randrange(1, 200)) * chance.choice((1, -1))
                y = chance.getrandbits(chance.randrange(1, 200)) + 1
                if math.gcd(x, y) == 1:
                    self.check_inverse(machine, x, y)

    def test_counts(self):
        self.assertEqual(self.told(inverse, 3, 7), (-2, [("inverse", 1, 1)], {"short": 10}))
        # Two divisions: of 1 by 1, and none more. 0 has no digit, so that its division counts nothing.
        self.assertEqual(self.told(inverse, 1, 1), (0, [("inverse", 1, 1)], {"short": 4}))
        self.assertEqual(self.told(inverse, 0, 1), (0, [("inverse", 0, 1)], {"short": 3}))
        found = 0, [("inverse", 3, 1), ("divide short", 3, 1)], {"quotient": 3, "short": 2}
        self.assertEqual(self.told(inverse, 70000, 1), found)
        self.assertEqual(self.told(inverse, -1, 5)[0], -1)

    def test_errors(self):
        machine = Machine(8, 4)
        for x, y, argument in ((3, 0, "y"), (3, -1, "y"), (0, 0, "y"), (4, -2, "y"), (0, 2, "x"), (4, 2, "x"),
                               (-6, 9, "x"),
                               (10 ** 30, 10 ** 20 + 5, "x"), (2 ** 100, 2 ** 50, "x")):
            error = self.refused(InvalidBound, machine, inverse, machine, big(machine, x), big(machine, y))
            self.assertEqual(error.argument, argument, (x, y))


def rows_by_text(y, width):
    """The rows of a number, from its bits as a text."""
    rows = []
    for found in re.finditer(f"1[01]{{0,{width - 1}}}", f"{y:b}"):
        kept = found.group().rstrip("0")
        rows.append((y.bit_length() - found.start() - len(kept), int(kept, 2)))
    return rows


class Rows(unittest.TestCase):
    def samples(self):
        chance = random.Random(101)
        longest = [2 ** 4000 - 1, 2 ** 3999, 2 ** 3999 + 1, chance.getrandbits(4000) | 1 << 3999]
        return list(range(1, 130)) + [1000, 2 ** 30,
                                      2 ** 64 - 1] + [chance.getrandbits(90) + 1 for k in range(30)] + longest

    def test_example(self):
        self.assertEqual(window_rows(1000, 4), [(6, 15), (3, 5)])
        self.assertEqual(best_width(1000), 2)
        self.assertEqual(window_rows(1, 1), [(0, 1)])
        self.assertEqual(window_rows(1, 12), [(0, 1)])
        self.assertEqual(window_rows(6, 1), [(2, 1), (1, 1)])
        self.assertEqual(window_rows(6, 2), [(1, 3)])
        self.assertEqual(window_rows(2 ** 4000 - 1, 12)[:2], [(3988, 4095), (3976, 4095)])
        self.assertEqual(window_rows(2 ** 3999, 12), [(3999, 1)])

    def test_rows(self):
        for y in self.samples():
            for width in range(1, 13):
                rows = window_rows(y, width)
                self.assertEqual(rows, rows_by_text(y, width))
                self.assertEqual(sum(number << place for place, number in rows), y)
                self.assertTrue(all(number % 2 == 1 and number < 2 ** width for place, number in rows))
                self.assertEqual([type(row) for row in rows], [tuple] * len(rows))

    def test_best_width(self):
        seen = set()
        for y in self.samples():
            costs = []
            for width in range(1, 13):
                rows = rows_by_text(y, width)
                costs.append((width > 1) + 2 ** (width - 1) - 1 + len(rows) - 1 + rows[0][0])
            self.assertEqual(best_width(y), 1 + costs.index(min(costs)), y)
            seen.add(best_width(y))
        self.assertLessEqual({1, 2, 3, 4, 7, 8}, seen)

    def test_the_same_rows_as_those_of_a_power(self):
        machine = Machine(30)
        for y in (2 ** 70 + 12345, 3 ** 100):
            told = [number for place, number in window_rows(y, 5)]
            self.assertEqual([step for step in power_steps(machine, big(machine, y))[1] if step], told)

    def argument(self, function, *values):
        try:
            function(*values)
        except InvalidBound as error:
            return error.argument

    def test_errors(self):
        for y in (0, -1, -(2 ** 4001), 2 ** 4000, 2 ** 5000, True, False, None, "1", [1], (1,), big(Machine(), 5)):
            self.assertEqual(self.argument(window_rows, y, 5), "y")
            self.assertEqual(self.argument(window_rows, y, 0), "y")
            self.assertEqual(self.argument(best_width, y), "y")
        for width in (0, 13, -1, 2 ** 70, True, False, None, "1", [1], big(Machine(), 5)):
            self.assertEqual(self.argument(window_rows, 5, width), "width")

    def test_new_lists(self):
        window_rows(1000, 4).append((0, 1))
        self.assertEqual(window_rows(1000, 4), [(6, 15), (3, 5)])
