"""Points 13 to 15: products by rows."""

import random
import unittest

from tests.samples import MACHINES, ModelCase, both_signs, counted, edges
from thirtybits.bigs import big, plain
from thirtybits.machines import Machine
from thirtybits.products import multiply_by_rows, square_by_rows


class AgainstTheModel(ModelCase):
    def check(self, machine, a, b):
        self.check_call(machine, multiply_by_rows, a, b)
        self.check_call(machine, square_by_rows, a)

    def test_edges(self):
        for parts in ((8, 4), (30, 70)):
            machine = Machine(*parts)
            numbers = both_signs(edges(parts[0])[::2])
            for a in numbers:
                for b in numbers:
                    self.check(machine, a, b)

    def test_many_numbers(self):
        chance = random.Random(17)
        for parts in MACHINES:
            machine = Machine(*parts)
            for step in range(300):
                a = chance.getrandbits(chance.randrange(300)) * chance.choice((1, -1))
                b = chance.getrandbits(chance.randrange(300)) * chance.choice((1, -1))
                self.check(machine, a, b)

    def test_great_digits(self):
        for parts in MACHINES:
            machine = Machine(*parts)
            for size in range(1, 12):
                self.check(machine, (1 << parts[0] * size) - 1, -(1 << parts[0] * (12 - size)) + 1)

    def test_digits_0_in_the_middle(self):
        machine = Machine(8, 4)
        for a in (256 ** 5 + 1, 256 ** 7, 255 * 256 ** 6 + 256, 256 ** 4 + 256 ** 2 + 255):
            for b in (256 ** 3 + 3, 256 ** 2, -(256 ** 6) - 256 ** 3):
                self.check(machine, a, b)


class Rows(unittest.TestCase):
    def test_counts(self):
        for a, b, walk, number in (
            (-1000, 70000, ("rows", 2, 3), 6),
            (70000, -1000, ("rows", 3, 2), 6),
            (0, 70000, ("rows", 0, 3), 0),
            (70000, 0, ("rows", 3, 0), 0),
            (0, 0, ("rows", 0, 0), 0),
            (5, 7, ("rows", 1, 1), 1),
            (256 ** 4, 256 ** 4, ("rows", 5, 5), 25),
            (-1, -1, ("rows", 1, 1), 1),
        ):
            machine = Machine(8, 4)
            self.assertEqual(plain(multiply_by_rows(machine, big(machine, a), big(machine, b))), a * b)
            self.assertEqual(machine.walk(), [walk])
            self.assertEqual(counted(machine), {"product": number} if number else {})

    def test_beyond_the_cutoff(self):
        machine = Machine(8, 2)
        n = 256 ** 20 - 1
        self.assertEqual(plain(multiply_by_rows(machine, big(machine, n), big(machine, n))), n * n)
        self.assertEqual(plain(square_by_rows(machine, big(machine, n))), n * n)
        self.assertEqual(machine.walk(), [("rows", 20, 20), ("square", 20, 20)])
        self.assertEqual(counted(machine), {"product": 400 + 210})

    def test_sizes_of_results(self):
        machine = Machine(8, 4)
        numbers = [n for n in edges(8) if n > 0]
        for a in numbers:
            for b in numbers[::3]:
                x, y = big(machine, a), big(machine, b)
                most = len(x.digits()) + len(y.digits())
                self.assertIn(len(multiply_by_rows(machine, x, y).digits()), (most - 1, most))


class SquareRows(unittest.TestCase):
    def test_counts(self):
        for a, size, number in ((16777215, 3, 6), (0, 0, 0), (-7, 1, 1), (-256, 2, 3), (256 ** 9, 10, 55)):
            machine = Machine(8, 4)
            self.assertEqual(plain(square_by_rows(machine, big(machine, a))), a * a)
            self.assertEqual(machine.walk(), [("square", size, size)])
            self.assertEqual(counted(machine), {"product": number} if number else {})

    def test_same_as_by_rows(self):
        for parts in MACHINES:
            machine = Machine(*parts)
            for n in both_signs(edges(parts[0])):
                x = big(machine, n)
                self.assertEqual(square_by_rows(machine, x), multiply_by_rows(machine, x, x))
