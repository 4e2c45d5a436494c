"""Points 19 to 24: division."""

import random
import unittest

from tests.samples import MACHINES, ModelCase, both_signs, counted, edges
from thirtybits.bigs import big, plain
from thirtybits.division import divide_both, floor_divide, long_walk, modulo, truncated
from thirtybits.errors import ZeroDivisor
from thirtybits.machines import Machine


class DivisionCase(ModelCase):
    def check(self, machine, a, b):
        """Compare all functions with the model, and their results with those of Python."""
        for function in (truncated, divide_both, floor_divide, modulo):
            self.check_call(machine, function, a, b)
        x, y = big(machine, a), big(machine, b)
        quotient, rest = [plain(part) for part in truncated(machine, x, y)]
        self.assertEqual((abs(quotient), abs(rest)), divmod(abs(a), abs(b)))
        self.assertEqual(quotient * b + rest, a)
        self.assertEqual(tuple(plain(part) for part in divide_both(machine, x, y)), divmod(a, b))
        self.assertEqual((floor_divide(machine, x, y), modulo(machine, x, y)), divide_both(machine, x, y))


class AgainstTheModel(DivisionCase):
    def test_edges(self):
        for parts in ((8, 4), (30, 70)):
            machine = Machine(*parts)
            numbers = both_signs(edges(parts[0])[::2])
            for a in numbers:
                for b in numbers[::3]:
                    if b != 0:
                        self.check(machine, a, b)

    def test_many_numbers(self):
        chance = random.Random(41)
        for parts in MACHINES:
            machine = Machine(*parts)
            for step in range(250):
                a = chance.getrandbits(chance.randrange(400)) * chance.choice((1, -1))
                b = (chance.getrandbits(chance.randrange(200)) + 1) * chance.choice((1, -1))
                self.check(machine, a, b)

    def test_products_and_their_neighbours(self):
        chance = random.Random(43)
        for parts in MACHINES:
            machine = Machine(*parts)
            for step in range(80):
                b = (chance.getrandbits(chance.randrange(1, 120)) + 1) * chance.choice((1, -1))
                a = b * chance.getrandbits(chance.randrange(120))
                for n in (a - 1, a, a + 1, a + b - 1):
                    self.check(machine, n, b)

    def test_digits_at_their_bounds(self):
        chance = random.Random(47)
        for bits in (8, 30):
            machine = Machine(bits)
            top = (1 << bits) - 1
            for step in range(600):
                a, b = [self.joined(bits, [chance.choice((0, 0, 1, top, top, top - 1, top // 2 + 1))
                                           for k in range(chance.randrange(1, 9))]) for n in range(2)]
                if b:
                    self.check(machine, a, b)

    def joined(self, bits, row):
        return sum(digit << bits * place for place, digit in enumerate(row))

    def test_long_numbers(self):
        machine = Machine()
        for a, b in ((10 ** 3000, 7 ** 1200), (3 ** 9000, -5 ** 500), (2 ** 20000 - 1, 2 ** 10000 - 1), (10 ** 2000, 7)):
            self.check(machine, a, b)


class Doors(DivisionCase):
    def test_first_door(self):
        for a, b in (
            (0, 5), (0, -70000), (5, 70000), (-5, 70000), (5, -70000), (65535, 65536), (-65535, 65536), (3, 7), (-3, 7),
            (511, 512), (256 ** 5 - 1, 256 ** 5), (127 * 256 ** 4 + 5, -128 * 256 ** 4),
        ):
            self.assertEqual(self.told(truncated, a, b), ((0, a), [], {}), (a, b))

    def test_second_door(self):
        for a, b, quotient, rest, size in (
            (-2000, 7, -285, -5, 2), (2000, -7, -285, 5, 2), (-2000, -7, 285, -5, 2), (7, 7, 1, 0, 1), (255, -254, -1, 1, 1),
            (-1, 1, -1, 0, 1), (1, -1, -1, 0, 1), (-1, -1, 1, 0, 1), (-200, -1, 200, 0, 1), (2000, -1, -2000, 0, 2),
            (200, 7, 28, 4, 1), (256, 255, 1, 1, 2), (256 ** 3, 1, 256 ** 3, 0, 4), (-70000, 70, -1000, 0, 3),
        ):
            found = (quotient, rest), [("divide short", size, 1)], {"quotient": size}
            self.assertEqual(self.told(truncated, a, b), found, (a, b))

    def test_third_door(self):
        walk = [("divide long", 3, 2), ("lift", 2, 7), ("lift", 3, 7), ("lower", 2, 7)]
        counts = {"shifted": 7, "quotient": 1, "product": 2}
        self.assertEqual(self.told(truncated, 65536, 258), ((254, 4), walk, counts))
        self.assertEqual(self.told(truncated, -65536, 258), ((-254, -4), walk, counts))
        self.assertEqual(self.told(truncated, 65536, -258), ((-254, 4), walk, counts))
        self.assertEqual(self.told(truncated, -65536, -258), ((254, -4), walk, counts))

    def test_last_digits_that_are_equal(self):
        # Behind the shift the last digit of a is less, so that the quotient has no digit at all.
        walk = [("divide long", 2, 2), ("lift", 2, 6), ("lift", 2, 6), ("lower", 2, 6)]
        self.assertEqual(self.told(truncated, 768 + 10, 768 + 200), ((0, 778), walk, {"shifted": 6}))
        # Here it is the same, 242, so that there is a guess, and 1 is too great.
        counts = {"shifted": 6, "quotient": 1, "product": 2, "corrected": 1}
        self.assertEqual(self.told(truncated, 968, 970), ((0, 968), walk, counts))
        counts = {"shifted": 6, "quotient": 1, "product": 2}
        self.assertEqual(self.told(truncated, -968, 768 + 200), ((-1, 0), walk, counts))

    def test_a_divisor_that_is_not_shifted(self):
        walk = [("divide long", 3, 2), ("lift", 2, 0), ("lift", 3, 0), ("lower", 2, 0)]
        counts = {"shifted": 7, "quotient": 1, "product": 2}
        self.assertEqual(self.told(truncated, 5 * 256 ** 2 + 7, 128 * 256), ((10, 7), walk, counts))
        counts = {"shifted": 7, "quotient": 2, "product": 4}
        self.assertEqual(self.told(truncated, 128 * 256 ** 2 + 7, 128 * 256), ((256, 7), walk, counts))

    def test_what_is_left_over_becomes_a_digit(self):
        walk = [("divide long", 3, 2), ("lift", 2, 7), ("lift", 3, 7), ("lower", 2, 7)]
        counts = {"shifted": 7, "quotient": 2, "product": 4}
        self.assertEqual(self.told(truncated, 2 * 256 ** 2, 256), ((512, 0), walk, counts))

    def test_zero_divisor(self):
        machine = Machine(8, 4)
        for a in (0, 5, -70000):
            for function in (truncated, divide_both, floor_divide, modulo):
                with self.assertRaises(ZeroDivisor):
                    function(machine, big(machine, a), big(machine, 0))
        self.assertEqual((counted(machine), machine.walk()), ({}, []))

    def test_long_divisors_go_the_same_way(self):
        machine = Machine(30, 2)
        self.check_call(machine, truncated, 3 ** 9000, 5 ** 4000)
        self.assertEqual(machine.walk()[0], ("divide long", 476, 310))
        self.assertEqual([word for word, m, n in machine.walk()], ["divide long", "lift", "lift", "lower"])


class RoundedDown(DivisionCase):
    def test_one_digit_each(self):
        for a, b in ((200, 7), (-200, 7), (200, -7), (-200, -7), (3, -7), (-3, 7), (7, 7), (-7, 7), (255, 1), (1, -255)):
            self.assertEqual(self.told(divide_both, a, b), (divmod(a, b), [], {"short": 1}))
            self.assertEqual(self.told(floor_divide, a, b), (a // b, [], {"short": 1}))
            self.assertEqual(self.told(modulo, a, b), (a % b, [], {"short": 1}))

    def test_zero_has_no_digit(self):
        for b in (5, -5, 70000, -70000):
            self.assertEqual(self.told(divide_both, 0, b), ((0, 0), [], {}))
            self.assertEqual(self.told(floor_divide, 0, b), (0, [], {}))
            self.assertEqual(self.told(modulo, 0, b), (0, [], {}))

    def test_short_division(self):
        walk = [("divide short", 2, 1), ("add", 2, 1)]
        self.assertEqual(self.told(divide_both, -2000, 7), ((-286, 2), walk, {"quotient": 2, "short": 1, "sum": 2}))
        self.assertEqual(self.told(floor_divide, -2000, 7), (-286, walk, {"quotient": 2, "short": 1, "sum": 2}))
        self.assertEqual(self.told(modulo, -2000, 7), (2, [("rest short", 2, 1)], {"quotient": 2, "short": 1}))
        self.assertEqual(self.told(divide_both, 2000, -7), ((-286, -2), walk, {"quotient": 2, "short": 1, "sum": 2}))
        self.assertEqual(self.told(modulo, 2000, -7), (-2, [("rest short", 2, 1)], {"quotient": 2, "short": 1}))

    def test_no_rest_or_a_rest_of_the_right_sign(self):
        for a, b in ((2000, 7), (-2000, -7), (2000, 8), (-2000, 8), (2000, -8), (-2000, -8)):
            self.assertEqual(self.told(divide_both, a, b), (divmod(a, b), [("divide short", 2, 1)], {"quotient": 2}))
            self.assertEqual(self.told(modulo, a, b), (a % b, [("rest short", 2, 1)], {"quotient": 2}))

    def test_first_door(self):
        self.assertEqual(self.told(divide_both, 5, 70000), ((0, 5), [], {}))
        self.assertEqual(self.told(modulo, -5, -70000), (-5, [], {}))
        # The rest becomes -5 + 70000 by taking, and the quotient 0 - 1 at once.
        self.assertEqual(self.told(divide_both, -5, 70000), ((-1, 69995), [("take", 3, 1)], {"sum": 3, "short": 1}))
        self.assertEqual(self.told(modulo, -5, 70000), (69995, [("take", 3, 1)], {"sum": 3}))
        self.assertEqual(self.told(modulo, 5, -70000), (-69995, [("take", 1, 3)], {"sum": 3}))

    def test_long_division(self):
        walk = [("divide long", 3, 2), ("lift", 2, 7), ("lift", 3, 7), ("lower", 2, 7)]
        counts = {"shifted": 7, "quotient": 1, "product": 2}
        self.assertEqual(self.told(divide_both, 65536, 258), ((254, 4), walk, counts))
        self.assertEqual(self.told(modulo, 65536, 258), (4, walk, counts))
        walk.append(("take", 2, 1))
        self.assertEqual(self.told(modulo, -65536, 258), (254, walk, {**counts, "sum": 2}))
        self.assertEqual(self.told(divide_both, -65536, 258), ((-255, 254), walk, {**counts, "sum": 2, "short": 1}))

    def test_results_of_every_small_pair(self):
        machine = Machine(8, 4)
        for a in range(-600, 601, 7):
            for b in list(range(-20, 21)) + [-300, -257, -256, 255, 256, 512]:
                if b:
                    x, y = big(machine, a), big(machine, b)
                    self.assertEqual(tuple(plain(n) for n in divide_both(machine, x, y)), divmod(a, b))
                    self.assertEqual(plain(modulo(machine, x, y)), a % b)


class LongWalk(DivisionCase):
    def steps(self, a, b, bits=8):
        machine = Machine(bits)
        self.check_call(machine, long_walk, a, b)
        machine.reset()
        return long_walk(machine, big(machine, a), big(machine, b)), counted(machine)

    def test_example(self):
        steps, counts = self.steps(8388608, 8388609)
        self.assertEqual(steps, [(1, 0, True, 0)])
        self.assertEqual(counts, {"shifted": 9, "quotient": 1, "product": 3, "restored": 1, "sum": 3})

    def test_signs_do_not_matter(self):
        for a, b in ((8388608, 8388609), (10 ** 9, 70001), (256 ** 5 - 1, 256 ** 2)):
            told = self.steps(a, b)
            for x, y in ((-a, b), (a, -b), (-a, -b)):
                self.assertEqual(self.steps(x, y), told)

    def test_no_digit(self):
        self.assertEqual(self.steps(778, 968), ([], {"shifted": 6}))

    def test_guesses_of_the_base_and_above(self):
        # a is just below b times BASE, and its last digit is that of b.
        seen = set()
        for b in (128 * 256 + 255, 128 * 256 ** 2 + 255 * 256 + 255, 255 * 256 + 1, 255 * 256 ** 2, 128 * 256 + 130):
            for more in (1, 2, 200, 1000):
                steps, counts = self.steps(b * 256 - more, b)
                seen.update(guess for guess, corrected, restored, digit in steps)
                self.assertTrue(all(0 <= digit < 256 for guess, corrected, restored, digit in steps))
        self.assertLessEqual({256, 257}, seen)

    def test_facts(self):
        chance = random.Random(53)
        machine = Machine(8)
        seen = set()
        for step in range(3000):
            n = chance.choice((2, 2, 3, 4, 7))
            b = sum(chance.choice((0, 1, 128, 254, 255)) << 8 * k for k in range(n - 1)) + (chance.choice((1, 128, 255)) << 8 * n - 8)
            a = b * chance.getrandbits(24) + chance.choice((0, 1, b // 2, b - 1))
            if a >> 8 * n == 0:
                continue
            machine.reset()
            steps = long_walk(machine, big(machine, a), big(machine, b))
            added_back = sum(restored for guess, corrected, restored, digit in steps)
            for guess, corrected, restored, digit in steps:
                self.assertLessEqual(corrected, 2)
                self.assertEqual(digit, guess - corrected - restored)
                self.assertIs(type(restored), bool)
                self.assertFalse(restored and n == 2)
                seen.add((corrected, restored))
            value = 0
            for step in steps:
                value = value * 256 + step[3]
            self.assertEqual(value, a // b)
            numbers = {
                "quotient": len(steps), "corrected": sum(step[1] for step in steps), "product": len(steps) * n,
                "restored": added_back, "sum": added_back * n, "shifted": len(big(machine, a).digits()) + 2 * n,
            }
            self.assertEqual(counted(machine), {word: number for word, number in numbers.items() if number})
        self.assertEqual(seen, {(0, False), (1, False), (2, False), (0, True), (1, True)})

    def test_same_as_the_division(self):
        machine = Machine(15)
        for a, b in ((10 ** 40, 10 ** 20 + 7), (-(10 ** 40), 2 ** 75 + 1)):
            x, y = big(machine, a), big(machine, b)
            machine.reset()
            steps = long_walk(machine, x, y)
            told = machine.tally(), machine.walk()
            machine.reset()
            quotient, rest = truncated(machine, x, y)
            self.assertEqual((machine.tally(), machine.walk()), told)
            digits = [digit for guess, corrected, restored, digit in steps[::-1]]
            self.assertEqual(digits[:len(quotient.digits())], quotient.digits())
            self.assertEqual(sum(digits[len(quotient.digits()):]), 0)


class Kinds(unittest.TestCase):
    def test_kinds_of_results(self):
        machine = Machine(8, 4)
        for a, b in ((200, 7), (-2000, 7), (70000, 258), (-5, 70000), (0, 3)):
            x, y = big(machine, a), big(machine, b)
            self.assertEqual([type(part) for part in truncated(machine, x, y)], [type(x)] * 2)
            self.assertIs(type(truncated(machine, x, y)), tuple)
            self.assertIs(type(divide_both(machine, x, y)), tuple)
            self.assertEqual([type(part) for part in divide_both(machine, x, y)], [type(x)] * 2)
        steps = long_walk(machine, big(machine, 70000), big(machine, 258))
        self.assertEqual((type(steps), [type(step) for step in steps]), (list, [tuple] * len(steps)))
