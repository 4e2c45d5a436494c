"""Points 54 to 57: division and reading by halves, factorials and numbers of choices."""

import math
import random

from tests.samples import MACHINES, ModelCase, both_signs, counted, edges
from thirtybits.bigs import big, plain
from thirtybits.errors import InvalidBound, InvalidText, TooGreat, ZeroDivisor
from thirtybits.machines import Machine
from thirtybits.trees import comb, factorial, halves_divide, halves_read, perm


def of(walk, *words):
    """The tuples of a walk that have one of these words."""
    return [step for step in walk if step[0] in words]


class HalvesDivide(ModelCase):
    def check(self, machine, x, y, **named):
        self.check_call(machine, halves_divide, x, y, **named)
        found = halves_divide(machine, big(machine, x), big(machine, y), **named)
        self.assertEqual(tuple(plain(part) for part in found), divmod(x, y))

    def test_every_small_pair(self):
        machine = Machine(8, 4)
        for x in range(-70, 71):
            for y in range(-17, 18):
                if y:
                    for limit in (1, 2, 3):
                        self.check(machine, x, y, limit=limit)

    def test_edges(self):
        machine = Machine(8, 4)
        numbers = both_signs(edges(8)[::4])
        for x in numbers:
            for y in numbers[::3]:
                if y:
                    for limit in (1, 5, 4000):
                        self.check(machine, x, y, limit=limit)

    def test_many_numbers(self):
        chance = random.Random(193)
        for parts in MACHINES + ((8, 2),):
            machine = Machine(*parts)
            for step in range(50):
                x, y = [(chance.getrandbits(chance.randrange(500)) + 1) * chance.choice((1, -1)) for k in range(2)]
                self.check(machine, x, y, limit=chance.choice((1, 2, 7, 20, 60, 200)))

    def test_guesses_that_are_corrected(self):
        chance = random.Random(197)
        machine = Machine(30)
        seen = set()
        for step in range(400):
            n = chance.choice((8, 12, 15, 16, 40))
            # The first half of the divisor is short, and the other one is all bits 1.
            y = (1 << n - 1) + (1 << n // 2) - 1 - chance.getrandbits(2)
            x = y * chance.getrandbits(2 * n) + chance.choice((0, 1, y - 1, y // 2))
            self.check(machine, x, y, limit=chance.choice((1, 2, 4)))
            seen.add(counted(machine).get("corrected", 0) > 0)
            machine.reset()
        self.assertEqual(seen, {True, False})

    def test_first_halves_that_are_the_same(self):
        # The first half of what is divided is that of the divisor, so that the guess is the greatest one.
        machine = Machine(8, 4)
        for n in (8, 9, 16, 33):
            for y in ((1 << n) - 1, (1 << n - 1) + 5, (5 << n - 3) + 1):
                for x in ((y << n) - 1, (y << n) - (1 << n // 2), (y << 2 * n) - 1):
                    for limit in (1, 3, 8):
                        self.check(machine, x, y, limit=limit)

    def test_example(self):
        machine = Machine(8, 4)
        pair = halves_divide(machine, big(machine, 25600), big(machine, 143), limit=4)
        walk = [("halves", 7, 8), ("halves", 15, 8), ("thirds", 7, 4), ("halves", 7, 4), ("thirds", 5, 4),
                ("halves", 5, 4)]
        self.assertEqual(([plain(part) for part in pair], type(pair)), ([179, 3], tuple))
        self.assertEqual((of(machine.walk(), "halves", "thirds"), counted(machine)["corrected"]), (walk, 1))

    def test_limits_at_their_bounds(self):
        # 15 - 8 is 7: with the limit 7, it is divided at once.
        at_once = [("halves", 7, 8), ("halves", 15, 8), ("divide short", 2, 1)]
        self.assertEqual(self.told(halves_divide, 25600, 143, limit=7),
                         ((179, 3), at_once, {"short": 1, "quotient": 2}))
        self.assertEqual(of(self.told(halves_divide, 25600, 143, limit=6)[1], "thirds"),
                         [("thirds", 7, 4), ("thirds", 5, 4)])
        # Without a limit it is 4000.
        n, top = 8001, (1 << 4000) - 1
        y = (1 << n - 1) + top
        for more, words in ((4000, {"halves"}), (4001, {"halves", "thirds"})):
            machine = Machine(30)
            x = (y << more - 1) + (1 << more - 2)
            pair = halves_divide(machine, big(machine, x), big(machine, y))
            self.assertEqual([plain(part) for part in pair], list(divmod(x, y)))
            machine.reset()
            halves_divide(machine, big(machine, (y << more) - 1), big(machine, y))
            self.assertEqual({word for word, m, n in of(machine.walk(), "halves", "thirds")}, words)
            told = machine.tally(), machine.walk()
            machine.reset()
            halves_divide(machine, big(machine, (y << more) - 1), big(machine, y), limit=4000)
            self.assertEqual((machine.tally(), machine.walk()), told)

    def test_signs(self):
        for x, y in ((25600, 143), (-25600, 143), (25600, -143), (-25600, -143), (-143 * 256, 143), (-1, 143),
                     (-1, -143)):
            self.check(Machine(8, 4), x, y, limit=4)
        # What is counted is that of 25600 by 143, and of 25599 by 143.
        told = self.told(halves_divide, 25600, 143, limit=4)
        self.assertEqual(self.told(halves_divide, -25600, -143, limit=4), ((179, -3), *told[1:]))
        told = self.told(halves_divide, 25599, 143, limit=4)
        self.assertEqual(self.told(halves_divide, -25600, 143, limit=4), ((-180, 140), *told[1:]))
        self.assertEqual(self.told(halves_divide, 25600, -143, limit=4), ((-180, -140), *told[1:]))

    def test_zero(self):
        for y in (1, -1, 143, -70000):
            self.assertEqual(self.told(halves_divide, 0, y), ((0, 0), [], {}))
        # -1 by y is 0 by y, which has no pieces.
        self.assertEqual(self.told(halves_divide, -1, 143), ((-1, 142), [], {}))

    def test_pieces(self):
        # Three pieces of 3 bits, each of which is divided with the rest ahead of it.
        found = self.told(halves_divide, 0o567, 5)
        self.assertEqual(found, ((0o567 // 5, 0), [("halves", 3, 3), ("halves", 3, 3), ("halves", 4, 3)], {"short": 3}))

    def test_long_numbers(self):
        machine = Machine()
        for x, y, limit in ((7 ** 9000, 3 ** 5000, 400), (10 ** 5000, -7 ** 3000, 1000), (-3 ** 4000, 10 ** 5, 1)):
            self.check(machine, x, y, limit=limit)

    def test_errors(self):
        machine = Machine(8, 4)
        x, zero = big(machine, 25600), big(machine, 0)
        for limit in (0, 4001, -1, 2 ** 70, True, False, None, "4", [4], (4,), x, machine):
            self.assertEqual(self.refused(InvalidBound, machine, halves_divide, machine, x, zero, limit=limit).argument,
                             "limit")
            self.assertEqual(self.refused(InvalidBound, machine, halves_divide, machine, x, None, limit=limit).argument,
                             "y")
        for limit in (1, 4000):
            self.refused(ZeroDivisor, machine, halves_divide, machine, x, zero, limit=limit)
            halves_divide(machine, x, x, limit=limit)
        with self.assertRaises(TypeError):
            halves_divide(machine, x, x, 4)


class HalvesRead(ModelCase):
    def test_example(self):
        machine = Machine(8, 4)
        self.assertEqual(plain(halves_read(machine, "002000", limit=2)), 2000)
        parts = [("part", 0, 6), ("part", 3, 6), ("part", 5, 6), ("part", 3, 5), ("part", 0, 3), ("part", 2, 3),
                 ("part", 0, 2)]
        self.assertEqual(of(machine.walk(), "part"), parts)
        # The power of 1 is made once, by the part that needs it first; that of 3 is made of those of 1 and 2.
        self.assertEqual(of(machine.walk(), "part", "few", "read")[:6], [
            ("part", 0, 6), ("part", 3, 6), ("part", 5, 6), ("read", 1, 10), ("part", 3, 5), ("read", 2, 10),
        ])
        self.assertEqual(of(machine.walk(), "few"), [("few", 1, 1)] * 2)

    def test_every_length(self):
        chance = random.Random(199)
        for parts in ((8, 4), (30, 70)):
            machine = Machine(*parts)
            for size in range(1, 70):
                text = "".join(chance.choice("0123456789") for k in range(size))
                for limit in (1, 2, 3, 7, 20, 2048):
                    self.check_call(machine, halves_read, text, limit=limit)
                    self.assertEqual(plain(halves_read(machine, text, limit=limit)), int(text))

    def test_zeros(self):
        machine = Machine(8, 4)
        for text in ("0", "000", "0" * 50, "0" * 20 + "7", "7" + "0" * 20, "0" * 20 + "7" + "0" * 30):
            for limit in (1, 3, 10):
                self.check_call(machine, halves_read, text, limit=limit)

    def test_limits_at_their_bounds(self):
        self.assertEqual(self.told(halves_read, "70000", limit=5),
                         (70000, [("part", 0, 5), ("read", 5, 10)], {"product": 3}))
        self.assertEqual(of(self.told(halves_read, "70000", limit=4)[1], "part"),
                         [("part", 0, 5), ("part", 3, 5), ("part", 0, 3)])
        for size, parts in ((2048, 1), (2049, 3)):
            machine = Machine()
            text = "7" * size
            self.assertEqual(plain(halves_read(machine, text)), int(text))
            self.assertEqual(len(of(machine.walk(), "part")), parts)

    def test_powers_of_five(self):
        # 13 digits: parts of 6 and 7, then of 3, 3, 3 and 4, then of 1 and 2. Known are the powers of 1, 3 and 6:
        # 1 by power, 3 of those of 1 and 2, and 2 of that of 1; 6 is the square of that of 3.
        chance = random.Random(211)
        for size in (13, 27, 50, 100):
            for limit in (1, 2, 3, 5):
                for bits, cutoff in ((8, 2), (8, 4), (30, 70)):
                    text = "".join(chance.choice("123456789") for k in range(size))
                    self.check_call(Machine(bits, cutoff), halves_read, text, limit=limit)

    def test_long_texts(self):
        machine = Machine()
        text = "1234567890" * 1200
        self.check_call(machine, halves_read, text)
        self.check_call(machine, halves_read, text[:6000], limit=100)
        self.assertTrue(plain(halves_read(machine, "9" * 40000)) == 10 ** 40000 - 1)

    def test_the_limit_of_read_text_is_not_asked(self):
        machine = Machine()
        self.assertTrue(plain(halves_read(machine, "0" * 6000 + "5")) == 5)

    def test_errors(self):
        machine = Machine(8, 4)
        for text in (None, True, 5, b"5", ["5"], ("5",), {}, machine, big(machine, 5)):
            self.assertEqual(self.refused(InvalidText, machine, halves_read, machine, text, limit=0).place, -1)
            self.assertEqual(self.refused(InvalidBound, machine, halves_read, None, text, limit=0).argument, "machine")
        for text, place in (("", 0), ("a", 0), (" 5", 0), ("5 ", 1), ("-5", 0), ("+5", 0), ("1_0", 1), ("12345x", 5),
                            ("0x10", 1), ("5\n", 1),
                            ("1/", 1), ("1:", 1)):
            self.assertEqual(self.refused(InvalidText, machine, halves_read, machine, text, limit=0).place, place)
            self.assertEqual(self.refused(InvalidText, machine, halves_read, machine, text).place, place)
        for sign in map(chr, range(128)):
            if sign not in "0123456789":
                self.assertEqual(self.refused(InvalidText, machine, halves_read, machine, "12" + sign + "3").place, 2)
        for limit in (0, 2049, -1, 4000, 2 ** 70, True, False, None, "4", [4], (4,), machine):
            self.assertEqual(self.refused(InvalidBound, machine, halves_read, machine, "5", limit=limit).argument,
                             "limit")
        with self.assertRaises(TypeError):
            halves_read(machine, "5", 4)


class Factorial(ModelCase):
    def test_at_once(self):
        for n in range(21):
            self.assertEqual(self.told(factorial, n), (math.factorial(n), [], {}))

    def test_values(self):
        for parts in ((8, 4), (30, 70), (8, 2)):
            machine = Machine(*parts)
            for n in list(range(19, 70)) + [100, 127, 128, 129, 255, 256, 300, 511, 512]:
                self.check_call(machine, factorial, n)
                self.assertEqual(plain(factorial(machine, n)), math.factorial(n))

    def test_order_of_the_factors(self):
        # With these, factors of one size have parts of several sizes, which the walk tells in their order.
        for n in (81, 82, 86, 94):
            self.check_call(Machine(8, 2), factorial, n)

    def test_greatest(self):
        for parts in ((8, 70), (30, 70)):
            machine = Machine(*parts)
            self.check_call(machine, factorial, 1100)
            self.assertTrue(plain(factorial(machine, 1100)) == math.factorial(1100))
            for n in (1101, 2000, 2 ** 70):
                self.refused(TooGreat, machine, factorial, machine, n)

    def test_counts(self):
        walk = [("odd part", 3, 5), ("odd part", 5, 7), ("odd part", 7, 13), ("odd part", 13, 27)]
        self.assertEqual(of(self.told(factorial, 25)[1], "odd part"), walk)
        whole, walk, counts = self.told(factorial, 21)
        self.assertEqual(of(walk, "odd part", "left"), [("odd part", 3, 7), ("odd part", 7, 11), ("odd part", 11, 23),
                                                        ("left", 6, 18)])
        # The numbers from 27 to 49 have 6 bits, and 12 times 6 is more than 64.
        self.assertEqual(of(self.told(factorial, 50)[1], "odd part")[-3:],
                         [("odd part", 27, 51), ("odd part", 27, 39), ("odd part", 39, 51)])

    def test_errors(self):
        machine = Machine(8, 4)
        for n in (-1, -(2 ** 70), True, False, None, "5", [5], (5,), big(machine, 5), machine):
            self.assertEqual(self.refused(InvalidBound, machine, factorial, machine, n).argument, "n")


class Choices(ModelCase):
    def check(self, machine, n, k):
        for function, other in ((comb, math.comb), (perm, math.perm)):
            self.check_call(machine, function, n, k)
            self.assertEqual(plain(function(machine, n, k)), other(n, k))

    def test_every_small_pair(self):
        machine = Machine(8, 4)
        for n in range(75):
            for k in range(0, n + 3):
                self.check(machine, n, k)

    def test_many_numbers(self):
        chance = random.Random(223)
        for parts in MACHINES + ((8, 2),):
            machine = Machine(*parts)
            for step in range(25):
                n = chance.getrandbits(chance.choice((7, 8, 12, 20, 40, 63)))
                self.check(machine, n, min(n, chance.randrange(40)))
            for n in (2 ** 63 - 1, 2 ** 62, 1000, 127, 128, 400, 401):
                for k in (0, 1, 2, 3, 5, 16, 33, 40):
                    self.check(machine, n, k)

    def test_order_of_the_factors(self):
        # With these, factors of one size have parts of several sizes, which the walk tells in their order.
        for n, k in ((91, 30), (100, 27), (112, 51), (127, 36), (39, 35), (42, 35), (45, 35), (51, 35)):
            self.check(Machine(8, 2), n, k)

    def test_at_once(self):
        for n, k in ((5, 3), (5, 2), (66, 33), (127, 15), (67, 33), (2 ** 63 - 1, 1), (2 ** 32, 2)):
            value = math.comb(n, k)
            self.assertTrue(value < 2 ** 64 and (n <= 127 or value * k < 2 ** 64))
            self.assertEqual(self.told(comb, n, k), (value, [("comb", n, min(k, n - k))], {}))
        for n, k in ((5, 3), (20, 20), (2 ** 32, 2), (2 ** 63 - 1, 1)):
            self.assertTrue(math.perm(n, k) < 2 ** 64)
            self.assertEqual(self.told(perm, n, k), (math.perm(n, k), [("perm", n, k)], {}))

    def test_bounds_of_what_is_told_at_once(self):
        # Of 68 things, 34 can be chosen in more than 2 ** 64 ways; with more than 127 things, k times as many count.
        for n, k in ((68, 34), (127, 15), (128, 15), (127, 21), (128, 18), (2 ** 32 + 1, 2), (2 ** 33, 2)):
            walk = of(self.told(comb, n, k)[1], "comb")
            at_once = math.comb(n, k) < 2 ** 64 and (n <= 127 or math.comb(n, k) * k < 2 ** 64)
            self.assertEqual(len(walk) == 1, at_once, (n, k))
            if not at_once:
                half = k // 2
                self.assertEqual((walk[0], walk[1], walk[-1]), (("comb", n, k), ("comb", n, half), ("comb", k, half)))
        least = next(n for n in range(128, 10 ** 6) if math.comb(n, 10) * 10 >= 2 ** 64)
        self.assertTrue(math.comb(least, 10) < 2 ** 64)
        self.assertEqual(len(of(self.told(comb, least - 1, 10)[1], "comb")), 1)
        self.assertGreater(len(of(self.told(comb, least, 10)[1], "comb")), 1)
        least = next(n for n in range(3, 10 ** 7) if math.perm(n, 3) >= 2 ** 64)
        self.assertEqual(len(of(self.told(perm, least - 1, 3)[1], "perm")), 1)
        self.assertEqual(of(self.told(perm, least, 3)[1], "perm"),
                         [("perm", least, 3), ("perm", least, 1), ("perm", least - 1, 2)])

    def test_walks(self):
        walk = [("comb", 70, 35), ("comb", 70, 17), ("comb", 53, 18), ("comb", 35, 17)]
        self.assertEqual(of(self.told(comb, 70, 35)[1], "comb"), walk)
        # The product comes ahead of the choice by which it is divided.
        words = [word for word, m, n in self.told(comb, 70, 35)[1]]
        self.assertEqual((words[3], words[-5:-3]), ("karatsuba", ["comb", "divide long"]))
        self.assertEqual(of(self.told(perm, 70, 12)[1], "perm"), [("perm", 70, 12), ("perm", 70, 6), ("perm", 64, 6)])

    def test_k_near_n_0_and_1(self):
        for n in (0, 1, 2, 130, 10 ** 6, 2 ** 63 - 1):
            self.assertEqual(self.told(comb, n, 0), (1, [("comb", n, 0)], {}))
            self.assertEqual(self.told(comb, n, n), (1, [("comb", n, 0)], {}))
            self.assertEqual(self.told(perm, n, 0), (1, [("perm", n, 0)], {}))
            if n:
                self.assertEqual(self.told(comb, n, 1), (n, [("comb", n, min(1, n - 1))], {}))
                self.assertEqual(self.told(comb, n, n - 1), (n, [("comb", n, min(1, n - 1))], {}))
                self.assertEqual(self.told(perm, n, 1), (n, [("perm", n, 1)], {}))

    def test_k_above_n(self):
        for n in (0, 5, 2 ** 63 - 1):
            for k in (n + 1, n + 500, 2 ** 70, 10 ** 5000):
                for function in (comb, perm):
                    if k > n:
                        self.assertEqual(self.told(function, n, k), (0, [], {}))

    def test_greatest(self):
        machine = Machine()
        for n, k in ((800, 400), (2 ** 63 - 1, 400), (801, 401), (2 ** 63 - 1, 2 ** 63 - 401),
                     (10 ** 9, 10 ** 9 - 400)):
            self.check_call(machine, comb, n, k)
        for n, k in ((400, 400), (2 ** 63 - 1, 400), (401, 400)):
            self.check_call(machine, perm, n, k)
        for n, k in ((802, 401), (2 ** 63 - 1, 401), (2 ** 63 - 1, 2 ** 63 - 402), (10 ** 9, 5 * 10 ** 8)):
            self.refused(TooGreat, machine, comb, machine, n, k)
        for n, k in ((401, 401), (2 ** 63 - 1, 401), (10 ** 9, 10 ** 9), (800, 799)):
            self.refused(TooGreat, machine, perm, machine, n, k)
        self.assertEqual(plain(comb(machine, 401, 401)), 1)

    def test_errors(self):
        machine = Machine(8, 4)
        for function in (comb, perm):
            for n in (-1, 2 ** 63, 2 ** 70, -(2 ** 70), True, False, None, "5", [5], (5,), big(machine, 5), machine):
                self.assertEqual(self.refused(InvalidBound, machine, function, machine, n, None).argument, "n")
                self.assertEqual(self.refused(InvalidBound, machine, function, machine, n, 401).argument, "n")
            for k in (-1, -(2 ** 70), True, False, None, "5", [5], (5,), big(machine, 5), machine):
                self.assertEqual(self.refused(InvalidBound, machine, function, machine, 2 ** 63 - 1, k).argument, "k")
