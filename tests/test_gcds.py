"""Points 36 to 38: greatest common divisors, Lehmer's step, least common multiples."""

import math
import random

from tests.samples import MACHINES, ModelCase, both_signs, counted, edges
from thirtybits.bigs import big, plain
from thirtybits.errors import InvalidBound
from thirtybits.gcds import gcd, gcd_many, lcm, lcm_many, lehmer_step
from thirtybits.machines import Machine


def fibonacci(n):
    """Two neighbours in Fibonacci's row, the greater one first."""
    a, b = 1, 1
    for step in range(n):
        a, b = a + b, a
    return a, b


class GcdCase(ModelCase):
    def check(self, machine, a, b):
        self.check_call(machine, gcd, a, b)
        x, y = big(machine, a), big(machine, b)
        self.assertEqual(plain(gcd(machine, x, y)), math.gcd(a, b))

    def check_lcm(self, machine, a, b):
        self.check_call(machine, lcm, a, b)
        self.assertEqual(plain(lcm(machine, big(machine, a), big(machine, b))), math.lcm(a, b))


class AgainstTheModel(GcdCase):
    def test_edges(self):
        for parts in ((8, 4), (30, 70)):
            machine = Machine(*parts)
            numbers = both_signs(edges(parts[0])[::3])
            for a in numbers:
                for b in numbers[::2]:
                    self.check(machine, a, b)

    def test_many_numbers(self):
        chance = random.Random(103)
        for parts in MACHINES:
            machine = Machine(*parts)
            for step in range(150):
                c = chance.getrandbits(chance.randrange(60)) + 1
                a, b = [chance.getrandbits(chance.randrange(300)) * c * chance.choice((1, -1)) for k in range(2)]
                self.check(machine, a, b)
                self.check_lcm(machine, a, b)

    def test_numbers_of_one_size(self):
        chance = random.Random(107)
        for bits in (8, 30):
            machine = Machine(bits)
            for size in (2, 3, 4, 6, 12):
                for step in range(15):
                    a = chance.getrandbits(bits * size) | 1 << bits * size - 1
                    for b in (a, a - 1, a + 1, a // 2, a // 3, a - chance.getrandbits(bits),
                              chance.getrandbits(bits * size)):
                        self.check(machine, a, b)
                        self.check(machine, -b, a)

    def test_long_numbers(self):
        machine = Machine()
        for a, b in ((10 ** 1000, 6 ** 700), (2 ** 5000 - 1, 2 ** 3000 - 1), (7 ** 900, 7 ** 300), (10 ** 900, 7)):
            self.check(machine, a, b)
            self.check_lcm(machine, a, b)

    def test_neighbours_in_fibonaccis_row(self):
        for bits in (8, 9, 15, 29, 30):
            machine = Machine(bits)
            for n in (5, 10, 11, 12, 23, 24, 33, 34, 35, 45, 60, 87, 130, 300):
                a, b = fibonacci(n)
                for x, y in ((a, b), (b, a), (-a, b), (12 * a, 12 * b)):
                    self.check(machine, x, y)


class Plainly(GcdCase):
    def test_counts(self):
        for a, b, divisor, sizes, quotients in (
            (0, 0, 0, (0, 0), 0), (5, 0, 5, (1, 0), 0), (0, -5, 5, (0, 1), 1), (12, 18, 6, (1, 1), 3),
            (18, 12, 6, (1, 1), 2),
            (-12, -18, 6, (1, 1), 3), (7, 7, 7, (1, 1), 1), (65535, 255, 255, (2, 1), 1), (255, 65535, 255, (1, 2), 2),
            (-65535, 65534, 1, (2, 2), 2), (1, 65535, 1, (1, 2), 2), (0, 65535, 65535, (0, 2), 1),
        ):
            counts = {"short": 1, "quotient": quotients} if quotients else {"short": 1}
            self.assertEqual(self.told(gcd, a, b), (divisor, [("euclid", *sizes)], counts), (a, b))

    def test_two_digits_and_one_more(self):
        for bits in (8, 30):
            machine = Machine(bits)
            top = 2 ** (2 * bits)
            for a, b in ((top - 1, 3), (3, top - 1), (top - 1, top - 1), (0, 1 - top)):
                machine.reset()
                gcd(machine, big(machine, a), big(machine, b))
                self.assertEqual([word for word, m, n in machine.walk()], ["euclid"])
            for a, b in ((top, 3), (3, top), (top, top), (0, -top), (top, 0)):
                machine.reset()
                gcd(machine, big(machine, a), big(machine, b))
                self.assertEqual(machine.walk()[0], ("gcd", len(big(machine, a).digits()),
                                                     len(big(machine, b).digits())))


class Steps(GcdCase):
    def test_example(self):
        walk = [("gcd", 3, 3), ("lehmer", 3, 3), ("lehmer", 3, 2), ("euclid", 2, 1)]
        counts = {"short": 1, "product": 12, "quotient": 16, "looked": 1}
        self.assertEqual(self.told(gcd, 2 ** 23, 5000000), (64, walk, counts))
        # They change places, which counts the same.
        self.assertEqual(self.told(gcd, 5000000, -(2 ** 23)), (64, walk, counts))

    def test_zero(self):
        for a, b, sizes in ((70000, 0, (3, 0)), (0, 70000, (0, 3)), (-(256 ** 5), 0, (6, 0))):
            self.assertEqual(self.told(gcd, a, b), (abs(a + b), [("gcd", *sizes)], {}))

    def test_equal_numbers(self):
        # The step takes no quotient: 1 is not certain. The rest is 0, and the result has three digits.
        walk = [("gcd", 3, 3), ("divide long", 3, 3), ("lift", 3, 7), ("lift", 3, 7), ("lower", 3, 7)]
        whole, found, counts = self.told(gcd, 70000, 70000)
        self.assertEqual((whole, found), (70000, walk))
        self.assertEqual(counts, {"looked": 3, "quotient": 2, "shifted": 9, "product": 3})
        self.assertEqual(self.told(gcd, -70000, 70000), (whole, found, counts))

    def test_no_quotient(self):
        # The first bits of 1 are all 0, so that no quotient is made; one is made of those of 3 and 7, but not taken.
        walk = [("gcd", 3, 1), ("rest short", 3, 1), ("euclid", 1, 0)]
        self.assertEqual(self.told(gcd, 70000, 1), (1, walk, {"quotient": 3, "short": 1}))
        self.assertEqual(self.told(gcd, 70000, 7), (7, walk, {"quotient": 1 + 3, "short": 1}))
        walk = [("gcd", 3, 1), ("rest short", 3, 1), ("euclid", 1, 1)]
        self.assertEqual(self.told(gcd, 70000, 3), (1, walk, {"quotient": 1 + 3 + 1, "short": 1}))

    def test_words_of_the_walk(self):
        machine = Machine(8)
        a, b = fibonacci(200)
        gcd(machine, big(machine, a), big(machine, b))
        words = [word for word, m, n in machine.walk()]
        self.assertEqual((words[0], words[-1]), ("gcd", "euclid"))
        self.assertIn("lehmer", words)
        for word, m, n in machine.walk():
            self.assertTrue(word not in ("lehmer", "gcd") or (m > 2 and m >= n), (word, m, n))


class LehmerStep(GcdCase):
    def check_step(self, machine, a, b):
        self.check_call(machine, lehmer_step, a, b)
        machine.reset()
        quotients, (p, q, r, s) = lehmer_step(machine, big(machine, a), big(machine, b))
        self.assertEqual(machine.walk(), [])
        self.assertIn(counted(machine).get("quotient", 0), (len(quotients), len(quotients) + 1))
        # The quotients are those of Euclid's method.
        x, y = a, b
        for quotient in quotients:
            self.assertEqual(x // y, quotient)
            x, y = y, x % y
        self.assertEqual((p * a + q * b, r * a + s * b), (x, y))
        self.assertEqual(abs(p * s - q * r), 1)
        return quotients

    def test_example(self):
        machine = Machine(8, 4)
        found = lehmer_step(machine, big(machine, 2 ** 23), big(machine, 5000000))
        self.assertEqual(found, ([1, 1, 2, 9, 1], (-28, 47, 31, -52)))
        self.assertEqual(([type(part) for part in found], type(found)), ([list, tuple], tuple))
        self.assertEqual((counted(machine), machine.walk()), ({"quotient": 6}, []))

    def test_no_quotient(self):
        for a, b, quotients in ((70000, 0, 0), (70000, 1, 0), (70000, 70000, 1), (256 ** 2, 1, 0),
                                (256 ** 5, 256 ** 2, 0)):
            counts = {"quotient": quotients} if quotients else {}
            self.assertEqual(self.told(lehmer_step, a, b), (([], (1, 0, 0, 1)), [], counts))

    def test_even_and_odd_numbers_of_quotients(self):
        chance = random.Random(109)
        for bits in (8, 9, 20, 30):
            machine = Machine(bits)
            seen = set()
            for step in range(150):
                size = chance.randrange(3, 9)
                a = chance.getrandbits(bits * size) | chance.choice((1, 1 << bits - 1)) << bits * (size - 1)
                b = min(a, chance.getrandbits(a.bit_length() - chance.choice((0, 0, 1, 3, bits, 2 * bits))))
                seen.add(len(self.check_step(machine, a, b)) % 2)
            self.assertEqual(seen, {0, 1})

    def test_last_digits(self):
        # The bits are taken from the first bit 1 on, wherever in the last digit it stands.
        machine = Machine(8)
        for top in range(8):
            for more in (0, 1, 12345, 65535):
                a = (1 << top + 16) + more
                for b in (a, a - 1, a // 2, a * 5 // 8, a // 100, 255):
                    self.check_step(machine, a, min(a, b))

    def test_neighbours_in_fibonaccis_row(self):
        for bits in (8, 30):
            machine = Machine(bits)
            for n in (40, 90, 140, 300):
                a, b = fibonacci(n)
                if len(big(machine, a).digits()) > 2:
                    self.assertEqual(set(self.check_step(machine, a, b)), {1})

    def test_errors(self):
        machine = Machine(8, 4)
        for x, y, argument in ((0, 0, "x"), (65535, 5, "x"), (-(256 ** 2), 5, "x"), (255, 256 ** 3, "x"), (-1, -1, "x"),
                               (256 ** 2, -1, "y"), (256 ** 2, 256 ** 2 + 1, "y"), (256 ** 2, -(256 ** 4), "y"),
                               (70000, 256 ** 3, "y")):
            error = self.refused(InvalidBound, machine, lehmer_step, machine, big(machine, x), big(machine, y))
            self.assertEqual(error.argument, argument, (x, y))
        error = self.refused(InvalidBound, machine, lehmer_step, machine, big(machine, 5), None)
        self.assertEqual(error.argument, "y")
        for bits in (9, 30):
            other = Machine(bits)
            error = self.refused(InvalidBound, other, lehmer_step, other, big(other, 4 ** bits - 1), big(other, 1))
            self.assertEqual(error.argument, "x")
            lehmer_step(other, big(other, 4 ** bits), big(other, 4 ** bits))


class Lcm(GcdCase):
    def test_counts(self):
        self.assertEqual(self.told(lcm, 12, 18), (36, [("euclid", 1, 1)], {"short": 3, "quotient": 3}))
        self.assertEqual(self.told(lcm, -12, 18), (36, [("euclid", 1, 1)], {"short": 3, "quotient": 3}))
        self.assertEqual(self.told(lcm, 12, -18), (36, [("euclid", 1, 1)], {"short": 3, "quotient": 3}))
        walk = [("euclid", 2, 1), ("divide short", 2, 1), ("rows", 1, 2)]
        self.assertEqual(self.told(lcm, -2000, 7), (14000, walk, {"short": 1, "quotient": 4 + 2, "product": 2}))

    def test_zero(self):
        for a, b in ((0, 0), (0, 5), (5, 0), (0, -70000), (256 ** 5, 0)):
            self.assertEqual(self.told(lcm, a, b), (0, [], {}))

    def test_every_small_pair(self):
        machine = Machine(8, 4)
        for a in range(-20, 21):
            for b in range(-20, 21):
                self.check_lcm(machine, a, b)

    def test_edges(self):
        machine = Machine(8, 4)
        numbers = both_signs(edges(8)[::5])
        for a in numbers:
            for b in numbers[::2]:
                self.check_lcm(machine, a, b)


class Many(GcdCase):
    def many(self, function, *values):
        return self.told(function, list(values))

    def test_gcd_many(self):
        euclid = ("euclid", 1, 1)
        self.assertEqual(self.many(gcd_many), (0, [], {}))
        self.assertEqual(self.many(gcd_many, -70000), (70000, [], {}))
        self.assertEqual(self.many(gcd_many, 0), (0, [], {}))
        self.assertEqual(self.many(gcd_many, 0, 0), (0, [("euclid", 0, 0)], {"short": 1}))
        self.assertEqual(self.many(gcd_many, 12, 18, 8), (2, [euclid, euclid], {"short": 2, "quotient": 3 + 3}))
        # Behind a 1, nothing is done; -1 is not 1.
        self.assertEqual(self.many(gcd_many, 12, 5, 100), (1, [euclid], {"short": 1, "quotient": 3}))
        self.assertEqual(self.many(gcd_many, 1, 5, 70000), (1, [], {}))
        self.assertEqual(self.many(gcd_many, -1, 5, 70000), (1, [euclid], {"short": 1, "quotient": 2}))
        self.assertEqual(self.many(gcd_many, 1), (1, [], {}))
        self.assertEqual(self.many(gcd_many, -1), (1, [], {}))

    def test_lcm_many(self):
        euclid = ("euclid", 1, 1)
        self.assertEqual(self.many(lcm_many), (1, [], {}))
        self.assertEqual(self.many(lcm_many, -70000), (70000, [], {}))
        self.assertEqual(self.many(lcm_many, 0), (0, [], {}))
        self.assertEqual(self.many(lcm_many, 4, 6, 10), (60, [euclid, euclid], {"short": 6, "quotient": 3 + 2}))
        # Behind a 0, nothing is done.
        self.assertEqual(self.many(lcm_many, 4, 0, 10), (0, [], {}))
        self.assertEqual(self.many(lcm_many, 0, 4, 10), (0, [], {}))
        self.assertEqual(self.many(lcm_many, 4, 6, 0, 10), (0, [euclid], {"short": 3, "quotient": 3}))
        self.assertEqual(self.many(lcm_many, 1, 1), (1, [euclid], {"short": 3, "quotient": 1}))

    def test_many_numbers(self):
        chance = random.Random(113)
        for parts in MACHINES:
            machine = Machine(*parts)
            for step in range(40):
                c = chance.choice((1, 2, 12, 10 ** 10))
                values = [chance.choice((0, 1, -1, 2, chance.getrandbits(chance.randrange(90)))) * c
                          for k in range(chance.randrange(6))]
                for function, expected in ((gcd_many, math.gcd(*values)), (lcm_many, math.lcm(*values))):
                    self.check_call(machine, function, values)
                    self.assertEqual(plain(function(machine, [big(machine, n) for n in values])), expected)

    def test_wrong_lists(self):
        machine = Machine(8, 4)
        x = big(machine, 5)
        for values in (None, True, 5, "", (), (x,), {}, x, machine, [5], [x, 5], [x, None], [[x]],
                       [x, big(Machine(9), 5)],
                       [x, x, True], [big(Machine(), 5), x]):
            for function in (gcd_many, lcm_many):
                self.assertEqual(self.refused(InvalidBound, machine, function, machine, values).argument, "values")
                self.assertEqual(self.refused(InvalidBound, machine, function, None, values).argument, "machine")

    def test_the_list_stays(self):
        machine = Machine(8, 4)
        for function in (gcd_many, lcm_many):
            values = [big(machine, n) for n in (12, -18, 70000)]
            kept = list(values)
            function(machine, values)
            self.assertTrue(len(values) == 3 and all(one is other for one, other in zip(values, kept)))
