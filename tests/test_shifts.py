"""Points 25 to 27: shifts."""

import random
import unittest

from tests.samples import MACHINES, ModelCase, both_signs, counted, edges
from thirtybits.bigs import big, plain
from thirtybits.errors import InvalidBound, TooGreat
from thirtybits.machines import Machine
from thirtybits.shifts import shift_left, shift_right, shift_row_down, shift_row_up


class ShiftCase(ModelCase):
    def check(self, machine, n, count):
        self.check_call(machine, shift_left, n, count)
        self.check_call(machine, shift_right, n, count)
        x = big(machine, n)
        self.assertEqual(plain(shift_left(machine, x, count)), n * 2 ** count)
        self.assertEqual(plain(shift_right(machine, x, count)), n // 2 ** count)


class AgainstTheModel(ShiftCase):
    def test_edges(self):
        for parts in ((8, 4), (30, 70)):
            machine = Machine(*parts)
            bits = parts[0]
            for n in both_signs(edges(bits)):
                for count in (0, 1, bits - 1, bits, bits + 1, 2 * bits, 3 * bits - 1, 4 * bits, 8 * bits, 9 * bits + 1, 1000):
                    self.check(machine, n, count)

    def test_every_count(self):
        machine = Machine(8, 4)
        for n in both_signs((1, 128, 255, 256, 2000, 65535, 65536, 70000, 256 ** 4 - 1, 256 ** 4, 256 ** 4 + 128)):
            for count in range(50):
                self.check(machine, n, count)

    def test_many_numbers(self):
        chance = random.Random(61)
        for parts in MACHINES:
            machine = Machine(*parts)
            for step in range(400):
                n = chance.getrandbits(chance.randrange(300)) * chance.choice((1, -1))
                # Below the last bits that are 1, a negative number is not rounded.
                n &= -(1 << chance.randrange(100))
                self.check(machine, n, chance.randrange(330))

    def test_long_numbers(self):
        machine = Machine()
        for n in both_signs((10 ** 4000, 2 ** 13000, 2 ** 13000 - 1)):
            for count in (0, 1, 29, 30, 6000, 12990, 12999, 13000, 13020, 14000):
                self.check(machine, n, count)


class Left(ShiftCase):
    def test_counts(self):
        for n, count, walk, numbers in (
            (2000, 11, [("left", 2, 11)], {"shifted": 2}),
            (-2000, 11, [("left", 2, 11)], {"shifted": 2}),
            (2000, 0, [("left", 2, 0)], {"shifted": 2}),
            (2000, 8, [("left", 2, 8)], {"shifted": 2}),
            (1, 8, [("left", 1, 8)], {"shifted": 1}),
            (-255, 800, [("left", 1, 800)], {"shifted": 1}),
            (1, 7, [], {"short": 1}),
            (-255, 7, [], {"short": 1}),
            (255, 0, [], {"short": 1}),
            (0, 0, [], {}),
            (0, 1000, [], {}),
        ):
            self.assertEqual(self.told(shift_left, n, count), (n << count, walk, numbers), (n, count))

    def test_digits(self):
        machine = Machine(8, 4)
        self.assertEqual(shift_left(machine, big(machine, 2000), 11).digits(), [0, 128, 62])
        self.assertEqual(shift_left(machine, big(machine, 255), 7).digits(), [128, 127])
        self.assertEqual(shift_left(machine, big(machine, -1), 24).digits(), [0, 0, 0, 1])

    def test_the_greatest_count(self):
        self.assertEqual(self.told(shift_left, -3, 100000), (-3 << 100000, [("left", 1, 100000)], {"shifted": 1}))
        self.assertEqual(self.told(shift_left, 256, 100000)[0], 256 << 100000)
        machine = Machine()
        for n in (1, -1, 10 ** 50):
            for count in (100001, 10 ** 6, 2 ** 64, 10 ** 100):
                with self.assertRaises(TooGreat):
                    shift_left(machine, big(machine, n), count)
        self.assertEqual((machine.walk(), counted(machine)), ([], {}))

    def test_zero_takes_every_count(self):
        for count in (100000, 100001, 2 ** 64, 10 ** 100):
            self.assertEqual(self.told(shift_left, 0, count), (0, [], {}))


class Right(ShiftCase):
    def test_counts_of_numbers_above_0(self):
        for n, count, walk, numbers in (
            (2000, 4, [("right", 2, 4)], {"shifted": 1}),
            (2000, 0, [("right", 2, 0)], {"shifted": 1}),
            (2000, 8, [("right", 2, 8)], {}),
            (2000, 11, [("right", 2, 11)], {}),
            (2000, 16, [("right", 2, 16)], {}),
            (2000, 17, [("right", 2, 17)], {}),
            (256 ** 5, 17, [("right", 6, 17)], {"shifted": 3}),
            (256 ** 5, 40, [("right", 6, 40)], {}),
            (255, 3, [], {"short": 1}),
            (255, 0, [], {"short": 1}),
            (255, 900, [], {"short": 1}),
            (0, 3, [], {}),
            (0, 0, [], {}),
        ):
            self.assertEqual(self.told(shift_right, n, count), (n >> count, walk, numbers), (n, count))

    def test_counts_of_numbers_below_0(self):
        for n, count, walk, numbers in (
            (-2000, 4, [("right", 2, 4)], {"shifted": 1}),
            (-2000, 0, [], {}),
            # The digit ahead is shifted by eight bits, and what is left over goes on.
            (-2000, 8, [("right", 2, 8)], {"shifted": 1}),
            (-2000, 9, [("right", 2, 9)], {"looked": 1}),
            (-2000, 16, [("right", 2, 16)], {"looked": 1}),
            (-2000, 17, [("right", 2, 17)], {}),
            (-2000, 24, [("right", 2, 24)], {}),
            (-(256 ** 5), 17, [("right", 6, 17)], {"looked": 2, "shifted": 3}),
            (-(256 ** 5), 16, [("right", 6, 16)], {"looked": 1, "shifted": 4}),
            (-(256 ** 5) - 1, 40, [("right", 6, 40)], {"looked": 4, "shifted": 1}),
            (-(256 ** 5) - 1, 41, [("right", 6, 41)], {"looked": 5}),
            (-255, 3, [], {"short": 1}),
            (-255, 0, [], {"short": 1}),
            (-255, 900, [], {"short": 1}),
        ):
            self.assertEqual(self.told(shift_right, n, count), (n >> count, walk, numbers), (n, count))

    def test_a_carry_makes_one_more_digit(self):
        machine = Machine(8, 4)
        for n, count, digits in (
            (-(256 ** 2) + 1, 8, [0, 1]), (-(256 ** 3) + 255, 8, [0, 0, 1]), (-(256 ** 2) + 1, 4, [0, 16]), (-256, 8, [1]),
            (-257, 8, [2]), (-(2 ** 16) + 1, 15, [2]), (-(256 ** 2) + 256, 8, [255]),
        ):
            found = shift_right(machine, big(machine, n), count)
            self.assertEqual((found.sign(), found.digits()), (-1, digits), (n, count))

    def test_counts_of_any_size(self):
        for count in (100001, 2 ** 63, 2 ** 64, 10 ** 100):
            self.assertEqual(self.told(shift_right, 70000, count), (0, [("right", 3, count)], {}))
            self.assertEqual(self.told(shift_right, -70000, count), (-1, [("right", 3, count)], {}))
            self.assertEqual(self.told(shift_right, 5, count), (0, [], {"short": 1}))
            self.assertEqual(self.told(shift_right, -5, count), (-1, [], {"short": 1}))
            self.assertEqual(self.told(shift_right, 0, count), (0, [], {}))


class Rows(ShiftCase):
    def test_against_the_model(self):
        chance = random.Random(67)
        for parts in MACHINES:
            machine = Machine(*parts)
            bits = parts[0]
            top = (1 << bits) - 1
            for step in range(300):
                row = [chance.choice((0, 1, top, chance.getrandbits(bits))) for k in range(chance.randrange(9))]
                count = chance.choice((0, 1, bits - 1, chance.randrange(bits)))
                self.check_call(machine, shift_row_up, row, count)
                self.check_call(machine, shift_row_down, row, count)

    def test_up(self):
        for digits, count, result, rest in (
            ([208, 7], 6, [0, 244], 1), ([208, 7], 0, [208, 7], 0), ([255, 255], 7, [128, 255], 127), ([0, 0], 3, [0, 0], 0),
            ([1, 0, 0], 7, [128, 0, 0], 0), ([], 0, [], 0), ([], 7, [], 0), ([0, 128], 1, [0, 0], 1),
        ):
            machine = Machine(8, 4)
            self.assertEqual(shift_row_up(machine, digits, count), (result, rest))
            self.assertEqual(machine.walk(), [("lift", len(digits), count)])
            self.assertEqual(counted(machine), {"shifted": len(digits)} if digits else {})

    def test_down(self):
        for digits, count, result, rest in (
            ([208, 7], 6, [31, 0], 16), ([208, 7], 0, [208, 7], 0), ([255, 255], 7, [255, 1], 127), ([0, 0], 3, [0, 0], 0),
            ([0, 0, 1], 7, [0, 2, 0], 0), ([], 0, [], 0), ([], 7, [], 0), ([1], 1, [0], 1), ([5, 0], 2, [1, 0], 1),
        ):
            machine = Machine(8, 4)
            self.assertEqual(shift_row_down(machine, digits, count), (result, rest))
            self.assertEqual(machine.walk(), [("lower", len(digits), count)])
            self.assertEqual(counted(machine), {"shifted": len(digits)} if digits else {})

    def test_lists_stay(self):
        machine = Machine(8, 4)
        for function in (shift_row_up, shift_row_down):
            for row in ([], [0], [208, 7], [255] * 40):
                for count in (0, 5):
                    kept = list(row)
                    found = function(machine, row, count)
                    self.assertEqual(row, kept)
                    self.assertIsNot(found[0], row)
                    self.assertEqual([type(part) for part in (found, *found)], [tuple, list, int])

    def test_wrong_counts(self):
        machine = Machine(8, 4)
        for function in (shift_row_up, shift_row_down):
            for count in (-1, 8, True, False, None, "1", 2 ** 70):
                with self.assertRaises(InvalidBound) as caught:
                    function(machine, [1], count)
                self.assertEqual(caught.exception.argument, "count")
        for function in (shift_left, shift_right):
            for count in (-1, True, False, None, "1", -(2 ** 70)):
                for n in (0, 5, -70000):
                    with self.assertRaises(InvalidBound) as caught:
                        function(machine, big(machine, n), count)
                    self.assertEqual(caught.exception.argument, "count")
        self.assertEqual((machine.walk(), counted(machine)), ([], {}))
