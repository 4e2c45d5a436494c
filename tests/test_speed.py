"""Products and squares that once took too long: what they give and count, and that long calls take few steps of Python.

No clock is read: the lines of the package that are carried out are counted, which is the same on each machine.
"""

import random
import sys

from tests.samples import ModelCase, counted
from thirtybits.bigs import big, plain
from thirtybits.division import divide_both, modulo, truncated
from thirtybits.gcds import gcd
from thirtybits.karatsuba import multiply, square
from thirtybits.machines import Machine
from thirtybits.products import multiply_by_rows, square_by_rows
from thirtybits.roots import isqrt
from thirtybits.texts import read_text, to_text


def lines_of(function, *arguments):
    """How many lines of the package a call carries out."""
    lines = 0

    def trace(frame, event, argument):
        nonlocal lines
        if "thirtybits" not in frame.f_code.co_filename:
            return None
        if event == "line":
            lines += 1
        return trace

    before = sys.gettrace()
    sys.settrace(trace)
    try:
        function(*arguments)
    finally:
        sys.settrace(before)
    return lines


class LongestCalls(ModelCase):
    def check(self, parts, function, n, numbers, first, many):
        """Compare a call with the model, and with numbers and walk that are written here."""
        machine = Machine(*parts)
        values = (n,) if function is square else (n, n)
        self.check_call(machine, function, *values)
        self.assertEqual(counted(machine), numbers)
        self.assertEqual((machine.walk()[:len(first)], len(machine.walk())), (first, many))
        self.assertEqual(plain(function(machine, *[big(machine, value) for value in values])), n * n)

    def test_square_of_602_digits(self):
        self.check((30, 301), square, 2 ** 18060 - 1, {"product": 602 * 603 // 2}, [("square", 602, 602)], 1)

    def test_product_of_420_digits(self):
        self.check((30, 1000), multiply, 2 ** 12600 - 1, {"product": 420 * 420}, [("rows", 420, 420)], 1)

    def test_product_of_200_digits(self):
        first = [("karatsuba", size, size) for size in (200, 100, 50, 25, 13, 7, 4)]
        first += [("rows", 2, 2), ("rows", 2, 2), ("take from", 6, 4), ("take from", 6, 4), ("add", 2, 2), ("add", 2, 2)]
        self.check((8, 2), multiply, 2 ** 1600 - 1, {"sum": 43281, "product": 11904}, first, 1000)

    def test_product_of_150_digits(self):
        first = [("karatsuba", size, size) for size in (150, 75, 38, 19, 10, 5, 3)]
        first += [("rows", 2, 2), ("rows", 1, 1), ("take from", 5, 2), ("take from", 5, 4), ("add", 2, 1), ("add", 2, 1)]
        self.check((30, 2), multiply, 2 ** 4500 - 1, {"sum": 28971, "product": 7922}, first, 1000)

    def test_square_of_150_digits(self):
        first = [("karatsuba", size, size) for size in (150, 75, 38, 19, 10, 5)]
        first += [("square", 3, 3), ("square", 2, 2), ("take from", 8, 4), ("take from", 8, 6), ("add", 3, 2)]
        self.check((30, 2), square, 2 ** 4500 - 1, {"sum": 12602, "product": 4715}, first, 1000)


class SizesAboutTheCutoff(ModelCase):
    def test_as_many_digits_as_the_cutoff_or_twice_as_many(self):
        chance = random.Random(31)
        for bits in (8, 30):
            for cutoff in (2, 3, 9, 20, 47, 110):
                machine = Machine(bits, cutoff)
                for size in (cutoff, cutoff + 1, 2 * cutoff, 2 * cutoff + 1):
                    a = chance.getrandbits(bits * size) | 1 << bits * size - 1
                    b = chance.getrandbits(bits * cutoff) | 1 << bits * cutoff - 1
                    self.check_call(machine, multiply, a, a)
                    self.check_call(machine, multiply, -a, b)
                    self.check_call(machine, square, -a)

    def test_up_to_two_hundred_digits(self):
        chance = random.Random(37)
        for cutoff in (2, 4, 8, 13, 20):
            for bits in (8, 30):
                machine = Machine(bits, cutoff)
                for step in range(3):
                    a, b = [chance.getrandbits(bits * chance.randrange(201)) for k in range(2)]
                    self.check_call(machine, multiply, a, b)
                    self.check_call(machine, square, b)

    def test_great_cutoffs(self):
        for parts in ((30, 301), (17, 500), (8, 1000)):
            machine = Machine(*parts)
            for m, n in ((parts[1] // 2, parts[1] // 2), (3, parts[1]), (parts[1] // 3, 1)):
                a, b = (1 << m * parts[0]) - 1, -(1 << n * parts[0]) + 1
                self.check_call(machine, multiply, a, b)
                self.check_call(machine, square, b)


class FewLines(ModelCase):
    def check(self, parts, function, *values):
        """Check that far fewer lines than products of digits are carried out."""
        machine = Machine(*parts)
        lines = lines_of(function, machine, *[big(machine, value) for value in values])
        self.assertGreater(lines, 0)
        self.assertLess(5 * lines, counted(machine)["product"])

    def test_one_routine(self):
        self.check((30, 301), square, 2 ** 18060 - 1)
        self.check((30, 1000), multiply, 2 ** 12600 - 1, 2 ** 12600 - 1)
        self.check((8, 200), multiply, 2 ** 1600 - 1, 2 ** 1600 - 1)
        self.check((8, 2), multiply_by_rows, 2 ** 1600 - 1, 2 ** 1600 - 1)
        self.check((8, 2), square_by_rows, 2 ** 3200 - 1)

    def test_a_few_routines(self):
        self.check((30, 70), multiply, 2 ** 6000 - 1, 2 ** 6000 - 1)
        self.check((30, 70), multiply, 2 ** 4200 - 1, 2 ** 30000 - 1)
        self.check((30, 70), square, 2 ** 9000 - 1)

    def test_long_division(self):
        for function in (truncated, divide_both, modulo):
            self.check((30, 70), function, -(2 ** 18000) + 5, 2 ** 9000 + 7)
            self.check((8, 70), function, 2 ** 3200 - 1, -(2 ** 1600) + 1)

    def test_many_small_routines(self):
        machine = Machine(8, 2)
        x = big(machine, 2 ** 1600 - 1)
        lines = lines_of(multiply, machine, x, x)
        # 1903 times Karatsuba's method, and 3768 times rows; the loops over the digits took more than twice as many.
        self.assertLess(lines, 250000)

    def test_texts(self):
        for bits in (8, 30):
            machine = Machine(bits)
            x = big(machine, 7 ** 4700)
            text = to_text(machine, x)
            # Digit by digit, writing and reading take about a hundred thousand steps, and many more with 8 bits.
            self.assertGreater(counted(machine)["quotient"], 95000)
            self.assertLess(lines_of(to_text, machine, x), 6 * (len(x.digits()) + len(text) // 2))
            self.assertLess(lines_of(read_text, machine, text), 25 * len(text))

    def test_gcds_and_roots(self):
        machine = Machine(8)
        x, y = big(machine, 3 ** 2000), big(machine, 2 ** 3000 + 1)
        lines = lines_of(gcd, machine, x, y)
        self.assertLess(2 * lines, counted(machine)["product"])
        machine.reset()
        lines = lines_of(isqrt, machine, big(machine, 10 ** 3000))
        self.assertLess(5 * lines, counted(machine)["product"])
