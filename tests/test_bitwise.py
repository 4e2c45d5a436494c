"""Points 28 to 30: numbers joined bit by bit."""

import random

from tests.samples import MACHINES, ModelCase, both_signs, counted, edges
from thirtybits.bigs import big, plain
from thirtybits.bitwise import bit_and, bit_not, bit_or, bit_xor, complement
from thirtybits.machines import Machine
from thirtybits.sums import add, subtract


class BitCase(ModelCase):
    def check(self, machine, a, b):
        """Compare all functions with the model, and their results with those of Python."""
        for function, result in ((bit_and, a & b), (bit_or, a | b), (bit_xor, a ^ b)):
            self.check_call(machine, function, a, b)
            self.assertEqual(plain(function(machine, big(machine, a), big(machine, b))), result)
        self.check_call(machine, bit_not, a)
        self.assertEqual(plain(bit_not(machine, big(machine, a))), ~a)


class AgainstTheModel(BitCase):
    def test_edges(self):
        for parts in ((8, 4), (30, 70)):
            machine = Machine(*parts)
            numbers = both_signs(edges(parts[0])[::2])
            for a in numbers:
                for b in numbers[::3]:
                    self.check(machine, a, b)

    def test_many_numbers(self):
        chance = random.Random(71)
        for parts in MACHINES:
            machine = Machine(*parts)
            for step in range(200):
                a, b = [self.drawn(chance, parts[0]) for k in range(2)]
                self.check(machine, a, b)

    def drawn(self, chance, bits):
        """A number of either sign with many digits at their bounds."""
        n, top = 0, (1 << bits) - 1
        for place in range(chance.randrange(7)):
            n = n << bits | chance.choice((0, 0, 1, top, top, chance.getrandbits(bits)))
        return n * chance.choice((1, -1))

    def test_long_numbers(self):
        machine = Machine()
        for a, b in ((10 ** 2000, 7 ** 1200), (-(2 ** 6000), 2 ** 5999 + 1), (-(2 ** 6000) + 1, -(2 ** 3000)), (2 ** 6000, -1)):
            self.check(machine, a, b)
            self.check(machine, b, a)


class Compact(BitCase):
    def test_counts(self):
        for a, b in ((0, 0), (5, 3), (-5, 3), (5, -3), (-5, -3), (255, -255), (-255, -255), (0, -1), (-128, 127)):
            self.assertEqual(self.told(bit_and, a, b), (a & b, [], {"short": 1}))
            self.assertEqual(self.told(bit_or, a, b), (a | b, [], {"short": 1}))
            self.assertEqual(self.told(bit_xor, a, b), (a ^ b, [], {"short": 1}))
            self.assertEqual(self.told(bit_not, a), (~a, [], {"short": 1}))

    def test_results_of_two_digits(self):
        self.assertEqual(self.told(bit_or, -255, -255), (-255, [], {"short": 1}))
        self.assertEqual(self.told(bit_and, -255, -254), (-256, [], {"short": 1}))
        self.assertEqual(self.told(bit_xor, 255, -1), (-256, [], {"short": 1}))
        self.assertEqual(self.told(bit_not, 255), (-256, [], {"short": 1}))


class Joined(BitCase):
    def check_told(self, function, a, b, walk, numbers):
        result = {bit_and: a & b, bit_or: a | b, bit_xor: a ^ b}[function]
        self.assertEqual(self.told(function, a, b), (result, walk, numbers), (function.__name__, a, b))

    def test_numbers_from_0_on(self):
        self.check_told(bit_and, 2000, 70000, [("and", 2, 3)], {"combined": 2})
        self.check_told(bit_or, 2000, 70000, [("or", 2, 3)], {"combined": 2})
        self.check_told(bit_xor, 70000, 2000, [("xor", 3, 2)], {"combined": 2})
        self.check_told(bit_xor, 70000, 0, [("xor", 3, 0)], {})
        self.check_told(bit_and, 0, 70000, [("and", 0, 3)], {})

    def test_the_shorter_one_is_below_0(self):
        short, long = ("complement", 2, 0), ("complement", 4, 0)
        self.check_told(bit_and, -2000, 70000, [("and", 2, 3), short], {"complemented": 2, "combined": 2})
        # The places behind b are left out; the two places and one more are complemented again.
        self.check_told(bit_or, -2000, 70000, [("or", 2, 3), short, ("complement", 3, 0)], {"complemented": 5, "combined": 2})
        self.check_told(bit_xor, -2000, 70000, [("xor", 2, 3), short, long], {"complemented": 6, "combined": 3})
        self.check_told(bit_and, 70000, -2000, [("and", 3, 2), short], {"complemented": 2, "combined": 2})
        self.check_told(bit_or, 70000, -2000, [("or", 3, 2), short, ("complement", 3, 0)], {"complemented": 5, "combined": 2})
        self.check_told(bit_xor, 70000, -2000, [("xor", 3, 2), short, long], {"complemented": 6, "combined": 3})

    def test_the_longer_one_is_below_0(self):
        first, long = ("complement", 3, 0), ("complement", 4, 0)
        self.check_told(bit_and, 2000, -70000, [("and", 2, 3), first], {"complemented": 3, "combined": 2})
        self.check_told(bit_or, 2000, -70000, [("or", 2, 3), first, long], {"complemented": 7, "combined": 2})
        self.check_told(bit_xor, 2000, -70000, [("xor", 2, 3), first, long], {"complemented": 7, "combined": 2})
        self.check_told(bit_or, -70000, 0, [("or", 3, 0), first, long], {"complemented": 7})
        self.check_told(bit_and, -70000, 0, [("and", 3, 0), first], {"complemented": 3})

    def test_both_are_below_0(self):
        both = [("complement", 2, 0), ("complement", 3, 0)]
        self.check_told(bit_and, -2000, -70000, [("and", 2, 3), *both, ("complement", 4, 0)], {"complemented": 9, "combined": 2})
        self.check_told(bit_or, -2000, -70000, [("or", 2, 3), *both, ("complement", 3, 0)], {"complemented": 8, "combined": 2})
        self.check_told(bit_xor, -2000, -70000, [("xor", 2, 3), *both], {"complemented": 5, "combined": 3})
        self.check_told(bit_xor, -70000, -2000, [("xor", 3, 2), *both[::-1]], {"complemented": 5, "combined": 3})

    def test_equal_sizes(self):
        row, more = ("complement", 2, 0), ("complement", 3, 0)
        self.check_told(bit_and, -2000, 4000, [("and", 2, 2), row], {"complemented": 2, "combined": 2})
        self.check_told(bit_and, -2000, -4000, [("and", 2, 2), row, row, more], {"complemented": 7, "combined": 2})
        self.check_told(bit_or, 2000, -4000, [("or", 2, 2), row, more], {"complemented": 5, "combined": 2})
        self.check_told(bit_xor, -2000, -2000, [("xor", 2, 2), row, row], {"complemented": 4, "combined": 2})
        self.check_told(bit_xor, 2000, 2000, [("xor", 2, 2)], {"combined": 2})

    def test_results_of_one_digit_more(self):
        # The last bits of -65535 are 01, those of -65534 are 10; all bits ahead of the sixteen last ones are 1 in both.
        machine = Machine(8, 4)
        found = bit_and(machine, big(machine, -65535), big(machine, -65534))
        self.assertEqual((found.sign(), found.digits()), (-1, [0, 0, 1]))

    def test_all_bits(self):
        for n in (70000, -70000, 256 ** 3, -(256 ** 3)):
            self.assertEqual(self.told(bit_and, -1, n)[0], n)
            self.assertEqual(self.told(bit_or, n, -1)[0], -1)
            self.assertEqual(self.told(bit_xor, n, -1)[0], -n - 1)


class Not(BitCase):
    def test_counts(self):
        for n, walk, numbers in (
            (2000, [("add", 2, 1)], {"sum": 2}),
            (65535, [("add", 2, 1)], {"sum": 2}),
            (-2000, [("take", 1, 2)], {"sum": 2}),
            (-256, [("take", 1, 2)], {"sum": 2}),
            (256 ** 5, [("add", 6, 1)], {"sum": 6}),
        ):
            self.assertEqual(self.told(bit_not, n), (~n, walk, numbers))


class Facts(BitCase):
    def test_facts(self):
        machine = Machine(9, 4)
        chance = random.Random(73)
        for step in range(300):
            x, y = [big(machine, chance.getrandbits(40) * chance.choice((1, -1))) for k in range(2)]
            both, one = bit_and(machine, x, y), bit_or(machine, x, y)
            self.assertEqual(add(machine, both, one), add(machine, x, y))
            self.assertEqual(bit_xor(machine, x, y), subtract(machine, one, both))
            self.assertEqual(bit_not(machine, both), bit_or(machine, bit_not(machine, x), bit_not(machine, y)))


class Complement(BitCase):
    def test_rows(self):
        for digits, result, carry in (
            ([208, 7], [48, 248], 0), ([0, 0], [0, 0], 1), ([], [], 1), ([0], [0], 1), ([1], [255], 0), ([255], [1], 0),
            ([0, 0, 5, 0], [0, 0, 251, 255], 0), ([255, 255], [1, 0], 0), ([0, 1], [0, 255], 0), ([5, 0, 0], [251, 255, 255], 0),
        ):
            machine = Machine(8, 4)
            kept = list(digits)
            found = complement(machine, digits)
            self.assertEqual(found, (result, carry))
            self.assertEqual([type(part) for part in (found, *found)], [tuple, list, int])
            self.assertEqual(digits, kept)
            self.assertIsNot(found[0], digits)
            self.assertEqual(machine.walk(), [("complement", len(digits), 0)])
            self.assertEqual(counted(machine), {"complemented": len(digits)} if digits else {})

    def test_against_the_model(self):
        chance = random.Random(79)
        for parts in MACHINES:
            machine = Machine(*parts)
            top = (1 << parts[0]) - 1
            for step in range(200):
                row = [chance.choice((0, 0, top, chance.getrandbits(parts[0]))) for k in range(chance.randrange(8))]
                self.check_call(machine, complement, row)
                if any(row):
                    self.assertEqual(complement(machine, complement(machine, row)[0])[0], row)
