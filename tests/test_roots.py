"""Points 39 to 41: square roots and their estimates."""

import fractions
import math
import random
import unittest

from tests import later_model
from tests.samples import MACHINES, ModelCase, counted, edges
from thirtybits.bigs import big, plain
from thirtybits.errors import InvalidBound
from thirtybits.machines import Machine
from thirtybits.roots import first_root, isqrt, root_estimates, root_table


class RootCase(ModelCase):
    def check(self, machine, n):
        self.check_call(machine, isqrt, n)
        self.assertEqual(plain(isqrt(machine, big(machine, n))), math.isqrt(n))

    def squares(self):
        """Squares and their neighbours, of roots of many sizes."""
        roots = list(range(20)) + [2 ** k + more for k in range(4, 140, 9) for more in (-1, 0, 1)]
        return sorted({max(r * r + more, 0) for r in roots for more in (-1, 0, 1, r, 2 * r)})


class Isqrt(RootCase):
    def test_small_numbers(self):
        machine = Machine(8, 4)
        for n in range(3000):
            self.assertEqual(plain(isqrt(machine, big(machine, n))), math.isqrt(n))

    def test_squares_and_their_neighbours(self):
        for parts in MACHINES:
            machine = Machine(*parts)
            for n in self.squares():
                self.check(machine, n)

    def test_edges(self):
        for bits in (8, 30):
            for n in edges(bits):
                self.check(Machine(bits), n)

    def test_many_numbers(self):
        chance = random.Random(127)
        for parts in MACHINES + ((8, 2),):
            machine = Machine(*parts)
            for step in range(60):
                self.check(machine, chance.getrandbits(chance.randrange(64, 600)))

    def test_every_number_of_bits(self):
        machine = Machine(30)
        for bits in range(60, 330):
            for n in (1 << bits, (1 << bits) - 1, (1 << bits) + (1 << bits // 2)):
                self.check(machine, n)

    def test_long_numbers(self):
        machine = Machine()
        for n in (10 ** 3000, 10 ** 2001 - 1, 7 ** 2000, 7 ** 2000 - 1):
            self.check(machine, n)

    def test_counts_below_2_to_the_64(self):
        self.assertEqual(self.told(isqrt, 0), (0, [], {}))
        for n in (1, 2, 3, 4, 255, 256, 70000, 2 ** 63, 2 ** 64 - 1, (2 ** 32 - 1) ** 2, (2 ** 32 - 1) ** 2 - 1):
            self.assertEqual(self.told(isqrt, n), (math.isqrt(n), [], {"short": 1}))

    def test_counts_from_2_to_the_64_on(self):
        # c is 32, b is 6, d is 16, then 32: one round, with shifts by 2 and by 64 - 32 - 16 + 1.
        whole, walk, counts = self.told(isqrt, 2 ** 64)
        self.assertEqual((whole, walk[:4]), (2 ** 32, [("root", 9, 32), ("right", 9, 2), ("right", 9, 17),
                                                       ("divide long", 6, 3)]))
        self.assertEqual([word for word, m, n in walk[4:]], ["lift", "lift", "lower", "left", "add", "square"])
        self.assertEqual(walk[7:], [("left", 3, 15), ("add", 4, 4), ("square", 5, 5)])

    def test_the_last_correction(self):
        # The estimate of a number just below 2 ** 112 is 2 ** 56, whose square has one digit more than the number.
        whole, walk, counts = self.told(isqrt, 2 ** 112 - 1)
        self.assertEqual((whole, walk[-2:]), (2 ** 56 - 1, [("square", 8, 8), ("take", 8, 1)]))
        self.assertNotIn("looked", counts)
        whole, walk, counts = self.told(isqrt, 2 ** 112)
        self.assertEqual((whole, walk[-1], counts["looked"]), (2 ** 56, ("square", 8, 8), 15))
        # Here the digits of both are compared, and 1 is subtracted from the last digit alone.
        n = 6074001000 ** 2 - 1
        whole, walk, counts = self.told(isqrt, n)
        self.assertEqual((whole, walk[-2:]), (6074000999, [("square", 5, 5), ("take", 5, 1)]))
        self.assertEqual(counts["looked"], len(big(Machine(8), n).digits()))
        self.assertEqual(root_estimates(big(Machine(8), n))[-1], 6074001000)

    def test_errors(self):
        machine = Machine(8, 4)
        for n in (-1, -4, -255, -256, -(2 ** 64), -(2 ** 500)):
            self.assertEqual(self.refused(InvalidBound, machine, isqrt, machine, big(machine, n)).argument, "x")
            self.assertEqual(self.refused(InvalidBound, machine, root_estimates, big(machine, n)).argument, "x")


class Estimates(RootCase):
    def test_none_below_2_to_the_64(self):
        for bits in (8, 30):
            machine = Machine(bits)
            for n in (0, 1, 4, 255, 10 ** 18, 2 ** 64 - 1):
                self.assertEqual(root_estimates(big(machine, n)), [])
            self.assertEqual(len(root_estimates(big(machine, 2 ** 64))), 2)

    def test_facts(self):
        chance = random.Random(131)
        numbers = [2 ** k + more for k in (64, 65, 66, 100, 127, 128, 129, 130, 255, 256, 300, 1000) for more in (-1, 0,
                                                                                                                  1)]
        numbers += [chance.getrandbits(chance.randrange(66, 900)) for step in range(100)]
        for x in numbers:
            if x < 2 ** 64:
                continue
            c = (x.bit_length() - 1) // 2
            b = c.bit_length()
            found = root_estimates(big(Machine(chance.choice((8, 15, 30))), x))
            self.assertEqual(len(found), b - 4)
            for s, a in zip(range(b - 5, -1, -1), found):
                d = c // 2 ** s
                y = x // 2 ** (2 * c - 2 * d)
                # From sqrt(y) - 1 to sqrt(y) + 1, without both ends.
                self.assertTrue((a - 1) ** 2 < y < (a + 1) ** 2, (x, d))
                self.assertIs(type(a), int)
            self.assertIn(found[-1], (math.isqrt(x), math.isqrt(x) + 1))

    def test_by_the_rounds(self):
        for x in (2 ** 64, 10 ** 30, 10 ** 100, 2 ** 1000 - 1):
            c = (x.bit_length() - 1) // 2
            b = c.bit_length()
            d = c >> b - 5
            a = later_model.first_root(x >> 2 * c - 62) >> 31 - d
            expected = [a]
            for s in range(b - 6, -1, -1):
                e, d = d, c >> s
                a = (a << d - 1 - e) + (x >> 2 * c - d - e + 1) // a
                expected.append(a)
            for bits in (8, 30):
                self.assertEqual(root_estimates(big(Machine(bits), x)), expected)

    def test_the_bits_of_a_digit_do_not_matter(self):
        for x in (2 ** 64, 10 ** 100):
            told = [root_estimates(big(Machine(bits), x)) for bits in range(8, 31)]
            self.assertEqual(told, told[:1] * 23)

    def test_nothing_is_counted(self):
        machine = Machine(8, 4)
        x = big(machine, 10 ** 100)
        root_estimates(x).append(0)
        self.assertEqual((counted(machine), machine.walk(), root_estimates(x)[-1]), ({}, [], 10 ** 50))


class FirstRoot(unittest.TestCase):
    def test_examples(self):
        self.assertEqual([first_root(2 ** 62), first_root(2 ** 64 - 1)], [2147483648, 4294967295])

    def test_facts(self):
        chance = random.Random(137)
        numbers = [2 ** 62, 2 ** 62 + 1, 2 ** 64 - 1, 2 ** 63, 2 ** 63 - 1]
        numbers += [k * 2 ** 56 + more for k in range(64, 256) for more in (0, 1, 2 ** 55, 2 ** 56 - 1)]
        numbers += [chance.randrange(2 ** 62, 2 ** 64) for step in range(2000)]
        numbers += [chance.randrange(2 ** 31, 2 ** 32) ** 2 - chance.randrange(2) for step in range(500)]
        for n in numbers:
            if n < 2 ** 62:
                continue
            a = first_root(n)
            self.assertTrue((a - 1) ** 2 < n < (a + 1) ** 2, n)
            self.assertEqual(a, later_model.first_root(n))

    def test_table(self):
        table = root_table()
        self.assertEqual((len(table), table[:3], table[191], type(table)), (192, [128, 129, 130], 255, list))
        for k, t in zip(range(64, 256), table):
            n = 256 * k + 128
            # The nearest integer: (t - 1/2) ** 2 <= n <= (t + 1/2) ** 2, or 255.
            half = fractions.Fraction(1, 2)
            self.assertTrue(t == 255 and n > 255 ** 2 or (t - half) ** 2 <= n <= (t + half) ** 2, k)
            self.assertIs(type(t), int)
        self.assertEqual(table, sorted(table))
        table.append(0)
        self.assertEqual(len(root_table()), 192)

    def test_errors(self):
        for n in (2 ** 62 - 1, 2 ** 64, 0, -(2 ** 62), 10 ** 100, True, None, "1", [2 ** 62], big(Machine(), 2 ** 62)):
            with self.assertRaises(InvalidBound) as caught:
                first_root(n)
            self.assertEqual(caught.exception.argument, "n")
