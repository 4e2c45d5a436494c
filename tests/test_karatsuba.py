"""Points 16 to 18: products by Karatsuba's method."""

import random

from tests.samples import ModelCase, counted
from thirtybits.bigs import big, plain
from thirtybits.karatsuba import multiply, square
from thirtybits.machines import Machine


class AgainstTheModel(ModelCase):
    def test_all_sizes(self):
        chance = random.Random(19)
        for parts in ((8, 2), (8, 4), (9, 3), (30, 2), (30, 5)):
            machine = Machine(*parts)
            for m in range(0, 16):
                for n in range(0, 34):
                    a = chance.getrandbits(m * parts[0]) * chance.choice((1, -1))
                    b = chance.getrandbits(n * parts[0]) * chance.choice((1, -1))
                    self.check_call(machine, multiply, a, b)
                    self.check_call(machine, multiply, b, a)
            for m in range(0, 40):
                self.check_call(machine, square, chance.getrandbits(m * parts[0]) * chance.choice((1, -1)))

    def test_greatest_digits(self):
        for parts in ((8, 2), (8, 4), (30, 3)):
            machine = Machine(*parts)
            for m in range(0, 20):
                self.check_call(machine, square, (1 << m * parts[0]) - 1)
                for n in range(m, 40):
                    self.check_call(machine, multiply, (1 << m * parts[0]) - 1, (1 << n * parts[0]) - 1)

    def test_digits_0(self):
        chance = random.Random(23)
        for parts in ((8, 2), (8, 3), (30, 4)):
            machine = Machine(*parts)
            for step in range(600):
                a, b = [self.with_zeros(chance, parts[0], chance.randrange(30)) for k in range(2)]
                self.check_call(machine, multiply, a, b)
                self.check_call(machine, square, a)

    def with_zeros(self, chance, bits, size):
        """A number with many digits 0, alone and in long rows."""
        n = 0
        for place in range(size):
            n = n << bits | chance.choice((0, 0, 0, 1, (1 << bits) - 1, chance.getrandbits(bits)))
        return n & -(1 << bits * chance.randrange(size + 1)) if chance.random() < 0.4 else n

    def test_long_numbers(self):
        machine = Machine()
        for a, b in ((10 ** 3000, 7 ** 2500), (3 ** 9000, 5 ** 2000), (2 ** 20000 - 1, 2 ** 20000 - 1)):
            self.check_call(machine, multiply, a, b)
            self.check_call(machine, square, a)

    def test_walk_of_more_than_a_thousand(self):
        machine = Machine(8, 2)
        n = 256 ** 200 - 1
        self.check_call(machine, multiply, n, n)
        self.assertEqual(len(machine.walk()), 1000)


class ByTheCutoff(ModelCase):
    def walk_of(self, cutoff, m, n):
        """The walk of a product of numbers of m and n digits, which is checked."""
        machine = Machine(8, cutoff)
        self.check_call(machine, multiply, 256 ** m - 1, -(256 ** n) + 1)
        return machine.walk()

    def square_walk_of(self, cutoff, m):
        machine = Machine(8, cutoff)
        self.check_call(machine, square, 256 ** m - 1)
        return machine.walk()

    def test_at_the_cutoff(self):
        for cutoff in (2, 3, 4, 7, 70):
            for n in (cutoff, cutoff + 1, 2 * cutoff, 5 * cutoff):
                self.assertEqual(self.walk_of(cutoff, cutoff, n), [("rows", cutoff, n)])
                self.assertEqual(self.walk_of(cutoff, n, cutoff), [("rows", cutoff, n)])
                self.assertEqual(self.walk_of(cutoff, cutoff - 1, n), [("rows", cutoff - 1, n)])

    def test_above_the_cutoff(self):
        for cutoff in (2, 3, 4, 7, 70):
            m = cutoff + 1
            for n in (m, m + 1, 2 * m - 1):
                self.assertEqual(self.walk_of(cutoff, m, n)[0], ("karatsuba", m, n))
                self.assertEqual(self.walk_of(cutoff, n, m)[0], ("karatsuba", m, n))
            for n in (2 * m, 2 * m + 1, 3 * m):
                self.assertEqual(self.walk_of(cutoff, m, n)[0], ("lopsided", m, n))
                self.assertEqual(self.walk_of(cutoff, n, m)[0], ("lopsided", m, n))

    def test_the_greatest_cutoff(self):
        machine = Machine(30, 1000)
        multiply(machine, big(machine, 2 ** 2400), big(machine, 2 ** 2500))
        square(machine, big(machine, 2 ** 2400))
        self.assertEqual(machine.walk(), [("rows", 81, 84), ("square", 81, 81)])

    def test_squares_about_twice_the_cutoff(self):
        for cutoff in (2, 3, 4, 7, 70):
            for m in (2, cutoff, cutoff + 1, 2 * cutoff - 1, 2 * cutoff):
                self.assertEqual(self.square_walk_of(cutoff, m), [("square", m, m)])
            m = 2 * cutoff + 1
            self.assertEqual(self.square_walk_of(cutoff, m)[0], ("karatsuba", m, m))

    def test_both_are_compact(self):
        for a, b in ((0, 0), (0, 5), (-5, 0), (255, 255), (-255, 255), (-1, -1)):
            machine = Machine(8, 2)
            self.check_call(machine, multiply, a, b)
            self.assertEqual((machine.walk(), counted(machine)), ([], {"short": 1}))
            self.check_call(machine, square, a)
            self.assertEqual((machine.walk(), counted(machine)), ([], {"short": 1}))

    def test_zero_and_a_longer_number(self):
        for a, b in ((0, 256), (-256, 0), (256 ** 50, 0)):
            machine = Machine(8, 2)
            found = multiply(machine, big(machine, a), big(machine, b))
            self.assertEqual((found.sign(), found.digits()), (0, []))
            self.assertEqual((machine.walk(), counted(machine)), ([], {}))

    def test_equal_factors_are_not_squared(self):
        machine = Machine(8, 4)
        for size in (2, 4, 5, 9, 20):
            x = big(machine, 256 ** size - 1)
            multiply(machine, x, x)
        self.assertNotIn("square", [word for word, m, n in machine.walk()])


class Walks(ModelCase):
    def test_compact_and_longer(self):
        machine = Machine(8, 4)
        self.assertEqual(plain(multiply(machine, big(machine, -300), big(machine, 7))), -2100)
        self.assertEqual((machine.walk(), counted(machine)), ([("rows", 1, 2)], {"product": 2}))

    def test_karatsuba(self):
        machine = Machine(8, 4)
        x = big(machine, 256 ** 5 - 1)
        multiply(machine, x, x)
        self.assertEqual(machine.walk(), [
            ("karatsuba", 5, 5), ("rows", 3, 3), ("rows", 2, 2), ("take from", 8, 4), ("take from", 8, 6),
            ("add", 3, 2), ("add", 3, 2), ("rows", 4, 4), ("add into", 8, 7),
        ])
        self.assertEqual(counted(machine)["product"], 29)

    def test_karatsuba_of_two_lengths(self):
        machine = Machine(8, 2)
        multiply(machine, big(machine, 256 ** 2 + 7), big(machine, 256 ** 4 + 256 ** 2))
        # The low parts are [7] and [], the high ones [1] and [1, 0, 1]; what is 0 is not multiplied.
        self.assertEqual(machine.walk(), [
            ("karatsuba", 3, 5), ("rows", 1, 3), ("take from", 6, 0), ("take from", 6, 3), ("add", 1, 1), ("add", 3, 0),
            ("rows", 1, 3), ("add into", 6, 3),
        ])

    def test_low_parts_of_one_digit_go_by_rows(self):
        machine = Machine(8, 2)
        n = 256 ** 3 + 5
        multiply(machine, big(machine, n), big(machine, n))
        self.assertEqual(machine.walk(), [
            ("karatsuba", 4, 4), ("rows", 2, 2), ("rows", 1, 1), ("take from", 6, 1), ("take from", 6, 3), ("add", 2, 1),
            ("add", 2, 1), ("rows", 2, 2), ("add into", 6, 3),
        ])
        self.assertNotIn("short", counted(machine))

    def test_square(self):
        machine = Machine(8, 2)
        square(machine, big(machine, -(256 ** 4) - 3))
        self.assertEqual(machine.walk(), [
            ("karatsuba", 5, 5), ("square", 3, 3), ("square", 1, 1), ("take from", 8, 1), ("take from", 8, 5),
            ("add", 3, 1), ("square", 3, 3), ("add into", 8, 5),
        ])

    def test_square_with_no_low_part(self):
        machine = Machine(8, 2)
        square(machine, big(machine, 256 ** 4))
        self.assertEqual(machine.walk(), [
            ("karatsuba", 5, 5), ("square", 3, 3), ("take from", 8, 0), ("take from", 8, 5),
            ("add", 3, 0), ("square", 3, 3), ("add into", 8, 5),
        ])
        # Behind its five digits, what is taken borrows from two more, and what is added gives them back.
        self.assertEqual(counted(machine), {"product": 6 + 6, "sum": 7 + 3 + 7})

    def test_slices(self):
        machine = Machine(8, 2)
        multiply(machine, big(machine, 256 ** 7 + 256 ** 2), big(machine, 256 ** 3 - 1))
        # The slices are [0, 0, 1], [0, 0, 0] and [0, 1]; their digits 0 are counted as digits.
        self.assertEqual(machine.walk(), [
            ("lopsided", 3, 8),
            ("karatsuba", 3, 3), ("rows", 2, 2), ("take from", 5, 0), ("take from", 5, 3), ("add", 2, 1), ("add", 2, 0),
            ("rows", 2, 3), ("add into", 5, 4), ("add into", 11, 5),
            ("karatsuba", 3, 3), ("take from", 5, 0), ("take from", 5, 0), ("add", 2, 1), ("add", 0, 0),
            ("add into", 5, 0), ("add into", 8, 0),
            ("rows", 2, 3), ("add into", 5, 4),
        ])

    def test_slices_of_digits_0_alone(self):
        machine = Machine(8, 4)
        multiply(machine, big(machine, 256 ** 5 - 1), big(machine, 256 ** 10))
        zeros = [
            ("karatsuba", 5, 5), ("take from", 8, 0), ("take from", 8, 0), ("add", 3, 2), ("add", 0, 0), ("add into", 8, 0),
        ]
        self.assertEqual(machine.walk(), [
            ("lopsided", 5, 11), *zeros, ("add into", 16, 0), *zeros, ("add into", 11, 0), ("rows", 1, 5), ("add into", 6, 5),
        ])
        self.assertEqual(counted(machine), {"product": 5, "sum": 11})
