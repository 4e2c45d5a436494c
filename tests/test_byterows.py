"""Points 47 to 49: bytes."""

import random

from tests.samples import MACHINES, ModelCase, both_signs, counted, edges
from thirtybits.bigs import big, plain
from thirtybits.byterows import byte_length, from_bytes, to_bytes
from thirtybits.errors import InvalidBound, TooGreat
from thirtybits.machines import Machine


def numbers():
    """Integers about the bounds of bytes, and some more."""
    found = {0, 1, 2, 127, 128, 129, 254, 255, 256, 257, 2000, 70000}
    for n in (1, 2, 3, 4, 7, 8, 15):
        for power in (256 ** n, 256 ** n // 2):
            found.update([power - 2, power - 1, power, power + 1])
    return both_signs(sorted(found))


def least_length(n, signed):
    """The least length with which Python itself makes bytes of a number, but the empty one is for 0 alone."""
    length = 0 if n == 0 else 1
    while True:
        try:
            n.to_bytes(length, "big", signed=signed)
            return length
        except OverflowError:
            length += 1


class ByteCase(ModelCase):
    def check(self, machine, n, length, signed):
        """Compare both orders, and the way back, with the model and with Python."""
        for order in ("little", "big"):
            self.check_call(machine, to_bytes, n, length, order, signed=signed)
            row = to_bytes(machine, big(machine, n), length, order, signed=signed)
            self.assertEqual(row, list(n.to_bytes(length, order, signed=signed)))
            self.check_call(machine, from_bytes, row, order, signed=signed)
            self.assertEqual(from_bytes(machine, row, order, signed=signed), big(machine, n))


class ByteLength(ByteCase):
    def test_lengths(self):
        machine = Machine(8, 4)
        for n in numbers():
            x = big(machine, n)
            self.assertEqual(byte_length(x, signed=True), least_length(n, True))
            if n >= 0:
                self.assertEqual(byte_length(x), least_length(n, False))
                self.assertEqual(byte_length(x, signed=False), least_length(n, False))
            self.assertIs(type(byte_length(x, signed=True)), int)
        self.assertEqual((counted(machine), machine.walk()), ({}, []))

    def test_examples(self):
        machine = Machine(8, 4)
        self.assertEqual([byte_length(big(machine, n)) for n in (0, 255, 256)], [0, 1, 2])
        told = [byte_length(big(machine, n), signed=True) for n in (0, 255, -256, -1, -128, -129, 127, 128)]
        self.assertEqual(told, [0, 2, 2, 1, 1, 2, 1, 2])

    def test_the_bits_of_a_digit_do_not_matter(self):
        for bits in (8, 9, 30):
            self.assertEqual(byte_length(big(Machine(bits), 2 ** 80)), 11)
            self.assertEqual(byte_length(big(Machine(bits), -(2 ** 80)), signed=True), 11)
            self.assertEqual(byte_length(big(Machine(bits), -(2 ** 79)), signed=True), 10)

    def test_errors(self):
        machine = Machine(8, 4)
        for n in (-1, -255, -(256 ** 9)):
            self.refused(TooGreat, machine, byte_length, big(machine, n))
            self.refused(TooGreat, machine, byte_length, big(machine, n), signed=False)
            for signed in (0, 1, None, "", "big", [], (), machine):
                self.assertEqual(self.refused(InvalidBound, machine, byte_length, big(machine, n),
                                              signed=signed).argument, "signed")
                self.assertEqual(self.refused(InvalidBound, machine, byte_length, n, signed=signed).argument, "x")
        with self.assertRaises(TypeError):
            byte_length(big(machine, 1), True)


class BothWays(ByteCase):
    def test_every_length(self):
        for parts in MACHINES:
            machine = Machine(*parts)
            for n in numbers():
                for signed in (False, True) if n >= 0 else (True,):
                    least = least_length(n, signed)
                    for length in (least, least + 1, least + 5):
                        self.check(machine, n, length, signed)

    def test_edges_of_digits(self):
        for parts in MACHINES:
            machine = Machine(*parts)
            for n in both_signs(edges(parts[0])[::2]):
                for more in (0, 1, 3):
                    self.check(machine, n, least_length(n, True) + more, True)

    def test_many_numbers(self):
        chance = random.Random(167)
        for bits in range(8, 31):
            machine = Machine(bits)
            for step in range(15):
                n = chance.getrandbits(chance.randrange(200)) * chance.choice((1, -1))
                self.check(machine, n, least_length(n, True) + chance.randrange(3), True)
                self.check(machine, abs(n), least_length(abs(n), False) + chance.randrange(3), False)

    def test_many_rows(self):
        chance = random.Random(173)
        for parts in MACHINES:
            machine = Machine(*parts)
            for step in range(150):
                row = [chance.choice((0, 0, 255, 255, 1, 127, 128,
                                      chance.randrange(256))) for k in range(chance.randrange(12))]
                for order in ("little", "big"):
                    for signed in (False, True):
                        self.check_call(machine, from_bytes, row, order, signed=signed)
                        found = plain(from_bytes(machine, row, order, signed=signed))
                        self.assertEqual(found, int.from_bytes(bytes(row), order, signed=signed))

    def test_longest_rows(self):
        for bits in (8, 30):
            machine = Machine(bits)
            for n, signed in ((256 ** 10000 - 1, False), (256 ** 10000 // 2 - 1, True), (-(256 ** 10000) // 2, True),
                              (-1, True), (0, False)):
                for order in ("little", "big"):
                    row = to_bytes(machine, big(machine, n), 10000, order, signed=signed)
                    self.assertTrue(row == list(n.to_bytes(10000, order, signed=signed)))
                    self.assertTrue(from_bytes(machine, row, order, signed=signed) == big(machine, n))
            self.check_call(machine, to_bytes, -(256 ** 1000) + 5, 1500, "big", signed=True)


class ToBytes(ByteCase):
    def test_counts(self):
        # 1999 has the digits 207 and 7, which are 11 bits.
        found = [255, 255, 248, 48], [("to bytes", 2, 4)], {"complemented": 2, "shifted": 2}
        self.assertEqual(self.told(to_bytes, -2000, 4, signed=True), found)
        self.assertEqual(self.told(to_bytes, -2000, 4, "big", signed=True), found)
        self.assertEqual(self.told(to_bytes, 2000, 4), ([0, 0, 7, 208], [("to bytes", 2, 4)], {"shifted": 2}))
        self.assertEqual(self.told(to_bytes, 2000, 2, "little"), ([208, 7], [("to bytes", 2, 2)], {"shifted": 2}))
        self.assertEqual(self.told(to_bytes, 5), ([5], [("to bytes", 1, 1)], {"shifted": 1}))
        self.assertEqual(self.told(to_bytes, 0), ([0], [("to bytes", 0, 1)], {}))
        self.assertEqual(self.told(to_bytes, 0, 0), ([], [("to bytes", 0, 0)], {}))
        self.assertEqual(self.told(to_bytes, 0, 0, signed=True), ([], [("to bytes", 0, 0)], {}))

    def test_counts_of_a_last_digit_that_becomes_0(self):
        self.assertEqual(self.told(to_bytes, -1, 3, signed=True),
                         ([255] * 3, [("to bytes", 1, 3)], {"complemented": 1}))
        found = [255, 0, 0], [("to bytes", 3, 3)], {"complemented": 3, "shifted": 2}
        self.assertEqual(self.told(to_bytes, -65536, 3, signed=True), found)
        # Two digits of 9 bits, the last of which becomes 0: 9 bits are two bytes.
        machine = Machine(9)
        self.assertEqual(to_bytes(machine, big(machine, -512), 2, signed=True), [254, 0])
        self.assertEqual((machine.walk(), counted(machine)), ([("to bytes", 2, 2)], {"complemented": 2, "shifted": 2}))

    def test_counts_of_digits_that_are_no_bytes(self):
        machine = Machine(30)
        # One digit of 30 bits has four bytes, the last one of 6 bits; two digits have 31 bits at least.
        for n, length, shifted in ((2 ** 30 - 1, 4, 4), (2 ** 30, 4, 4), (2 ** 32 - 1, 4, 4), (2 ** 32, 5, 5),
                                   (2 ** 24, 9, 4), (2 ** 24 - 1, 9, 3)):
            machine.reset()
            to_bytes(machine, big(machine, n), length)
            self.assertEqual(counted(machine), {"shifted": shifted})

    def test_bounds_of_each_length(self):
        machine = Machine(8, 4)
        for length in (0, 1, 2, 3, 9):
            most = 256 ** length - 1
            self.assertEqual(to_bytes(machine, big(machine, most), length), [255] * length)
            for n in (most + 1, -1, -(256 ** 20)):
                self.refused(TooGreat, machine, to_bytes, machine, big(machine, n), length)
            if length:
                half = 256 ** length // 2
                for n in (half - 1, -half):
                    self.check(machine, n, length, True)
            else:
                half = 0
                for n in (1, -1):
                    self.refused(TooGreat, machine, to_bytes, machine, big(machine, n), 0, signed=True)
            for n in (half + 1, -half - 1, 256 ** 20, -(256 ** 20)):
                self.refused(TooGreat, machine, to_bytes, machine, big(machine, n), length, signed=True)
        self.refused(TooGreat, machine, to_bytes, machine, big(machine, 128), signed=True)
        self.refused(TooGreat, machine, to_bytes, machine, big(machine, 256))
        self.refused(TooGreat, machine, to_bytes, machine, big(machine, 256 ** 10000), 10000)

    def test_errors(self):
        machine = Machine(8, 4)
        x = big(machine, -70000)
        for length in (-1, 10001, 2 ** 70, True, None, "1", [1], (), machine):
            error = self.refused(InvalidBound, machine, to_bytes, machine, x, length, "none", signed=5)
            self.assertEqual(error.argument, "length")
        for order in ("", "Big", "LITTLE", "bigger", None, True, 0, b"big", ["big"], ("big",), {}, machine):
            self.assertEqual(self.refused(InvalidBound, machine, to_bytes, machine, x, 1, order, signed=5).argument,
                             "order")
        for signed in (0, 1, None, "", "True", [], (True,), machine):
            self.assertEqual(self.refused(InvalidBound, machine, to_bytes, machine, x, 1, "big",
                                          signed=signed).argument, "signed")
        with self.assertRaises(TypeError):
            to_bytes(machine, x, 4, "big", True)

    def test_new_lists(self):
        machine = Machine(8, 4)
        for order in ("little", "big"):
            to_bytes(machine, big(machine, 2000), 2, order).append(5)
            self.assertEqual(sorted(to_bytes(machine, big(machine, 2000), 2, order)), [7, 208])


class FromBytes(ByteCase):
    def test_counts_of_numbers_from_0_on(self):
        for row, n, looked, kept in (
            ([0], 0, 1, 0), ([0, 0, 0], 0, 3, 0), ([5], 5, 1, 1), ([0, 5], 5, 2, 1), ([7, 208], 2000, 1, 2),
            ([0, 0, 7, 208], 2000, 3, 2),
            ([255], 255, 1, 1), ([255, 255], 65535, 1, 2), ([0, 255], 255, 2, 1), ([1, 0, 0], 65536, 1, 3),
        ):
            counts = {"looked": looked, **({"shifted": kept} if kept else {})}
            self.assertEqual(self.told(from_bytes, row), (n, [("from bytes", len(row), 0)], counts), row)
            self.assertEqual(self.told(from_bytes, row[::-1], "little"), (n, [("from bytes", len(row), 0)], counts),
                             row)
            if row[0] < 128:
                self.assertEqual(self.told(from_bytes, row, signed=True), (n, [("from bytes", len(row), 0)], counts),
                                 row)

    def test_counts_of_numbers_below_0(self):
        for row, n, looked, kept in (
            ([255, 255, 248, 48], -2000, 3, 3), ([248, 48], -2000, 1, 2), ([255], -1, 1, 1),
            ([255, 255, 255], -1, 3, 1), ([128], -128, 1, 1),
            ([128, 0], -32768, 1, 2), ([255, 0], -256, 2, 2), ([255, 255, 0], -256, 3, 2), ([254, 255], -257, 1, 2),
            ([255, 128], -128, 2, 2),
        ):
            counts = {"looked": looked, "shifted": kept, "complemented": kept}
            self.assertEqual(self.told(from_bytes, row, signed=True), (n, [("from bytes", len(row), 0)], counts), row)
            self.assertEqual(self.told(from_bytes, row[::-1], "little", signed=True),
                             (n, [("from bytes", len(row), 0)], counts), row)

    def test_empty_list(self):
        for order in ("little", "big"):
            for signed in (False, True):
                self.assertEqual(self.told(from_bytes, [], order, signed=signed), (0, [], {}))

    def test_errors(self):
        machine = Machine(8, 4)
        for row in (None, True, 5, b"\x01", bytearray(b"\x01"), (1, 2), "1", {}, range(2), [256], [-1], [1, True],
                    [None], [[1]], [(1,)], [b"1"],
                    ["1"], [2 ** 70], [0] * 10001, [1] * 9999 + [256], machine):
            self.assertEqual(self.refused(InvalidBound, machine, from_bytes, machine, row, "none", signed=5).argument,
                             "row")
        for order in ("", "Big", None, True, b"big", ["big"], {}, machine):
            for row in ([], [1]):
                self.assertEqual(self.refused(InvalidBound, machine, from_bytes, machine, row, order,
                                              signed=5).argument, "order")
        for signed in (0, 1, None, "", [], machine):
            for row in ([], [1]):
                error = self.refused(InvalidBound, machine, from_bytes, machine, row, "little", signed=signed)
                self.assertEqual(error.argument, "signed")
        with self.assertRaises(TypeError):
            from_bytes(machine, [1], "big", True)

    def test_digits_of_the_result(self):
        for bits in (8, 9, 30):
            machine = Machine(bits)
            found = from_bytes(machine, [128] + [0] * 50, signed=True)
            self.assertEqual((found.sign(), found.bits(), plain(found)), (-1, bits, -(2 ** 407)))
