"""Points 9 to 12: sums and differences."""

import random
import unittest

from tests.samples import MACHINES, ModelCase, both_signs, counted, edges
from thirtybits.bigs import big, plain
from thirtybits.machines import Machine
from thirtybits.sums import add, added_into, subtract, taken_from


class SumsAgainstTheModel(ModelCase):
    def check(self, machine, a, b):
        self.check_call(machine, add, a, b)
        self.check_call(machine, subtract, a, b)

    def test_edges(self):
        for parts in ((8, 4), (30, 70)):
            machine = Machine(*parts)
            numbers = both_signs(edges(parts[0]))
            for a in numbers:
                for b in numbers:
                    self.check(machine, a, b)

    def test_many_numbers(self):
        chance = random.Random(11)
        for parts in MACHINES:
            machine = Machine(*parts)
            for step in range(400):
                a = chance.getrandbits(chance.randrange(200)) * chance.choice((1, -1))
                b = chance.getrandbits(chance.randrange(200)) * chance.choice((1, -1))
                self.check(machine, a, b)

    def test_equal_upper_digits(self):
        chance = random.Random(12)
        for parts in MACHINES:
            machine = Machine(*parts)
            for step in range(200):
                a = chance.getrandbits(10 * parts[0])
                b = a ^ chance.getrandbits(chance.randrange(10 * parts[0]))
                for sign in (1, -1):
                    self.check(machine, sign * a, sign * b)
                    self.check(machine, sign * a, -sign * b)

    def test_long_numbers(self):
        machine = Machine()
        for a, b in ((10 ** 4000, 10 ** 3999), (2 ** 30000 - 1, 1), (2 ** 30000, 1), (2 ** 30000, -2 ** 30000)):
            self.check(machine, a, b)
            self.check(machine, -a, b)


class Adding(unittest.TestCase):
    def test_all_pairs_of_signs(self):
        for a, b, walk, numbers in (
            (2000, 4000, [("add", 2, 2)], {"sum": 2}),
            (-2000, -4000, [("add", 2, 2)], {"sum": 2}),
            (2000, -4000, [("take", 2, 2)], {"looked": 1, "sum": 2}),
            (-2000, 4000, [("take", 2, 2)], {"looked": 1, "sum": 2}),
            (70000, 5, [("add", 3, 1)], {"sum": 3}),
            (5, 70000, [("add", 1, 3)], {"sum": 3}),
            (-5, -70000, [("add", 1, 3)], {"sum": 3}),
            (70000, -5, [("take", 3, 1)], {"sum": 3}),
            (-70000, 5, [("take", 1, 3)], {"sum": 3}),
            (5, -70000, [("take", 1, 3)], {"sum": 3}),
            (-5, 70000, [("take", 3, 1)], {"sum": 3}),
            (0, 70000, [("add", 0, 3)], {"sum": 3}),
            (70000, 0, [("add", 3, 0)], {"sum": 3}),
            (0, -70000, [("take", 0, 3)], {"sum": 3}),
            (-70000, 0, [("take", 0, 3)], {"sum": 3}),
            (70000, -70000, [("take", 3, 3)], {"looked": 3}),
            (255, 255, [], {"short": 1}),
            (-255, -255, [], {"short": 1}),
            (0, 0, [], {"short": 1}),
            (255, -255, [], {"short": 1}),
        ):
            machine = Machine(8, 4)
            self.assertEqual(plain(add(machine, big(machine, a), big(machine, b))), a + b)
            self.assertEqual((machine.walk(), counted(machine)), (walk, numbers), (a, b))

    def test_long_carries(self):
        machine = Machine(8, 4)
        found = add(machine, big(machine, 256 ** 9 - 1), big(machine, 1))
        self.assertEqual(found.digits(), [0] * 9 + [1])
        self.assertEqual((machine.walk(), counted(machine)), ([("add", 9, 1)], {"sum": 9}))
        found = add(machine, big(machine, -(256 ** 9 - 1)), big(machine, -(256 ** 9 - 1)))
        self.assertEqual((found.sign(), found.digits()), (-1, [254] + [255] * 8 + [1]))


class Subtracting(unittest.TestCase):
    def test_all_pairs_of_signs(self):
        for a, b, walk, numbers in (
            (4000, 2000, [("take", 2, 2)], {"looked": 1, "sum": 2}),
            (2000, 4000, [("take", 2, 2)], {"looked": 1, "sum": 2}),
            (-2000, -4000, [("take", 2, 2)], {"looked": 1, "sum": 2}),
            (2000, -4000, [("add", 2, 2)], {"sum": 2}),
            (-2000, 4000, [("add", 2, 2)], {"sum": 2}),
            (70000, 5, [("take", 3, 1)], {"sum": 3}),
            (5, 70000, [("take", 1, 3)], {"sum": 3}),
            (-5, -70000, [("take", 3, 1)], {"sum": 3}),
            (-70000, -5, [("take", 1, 3)], {"sum": 3}),
            (70000, -5, [("add", 3, 1)], {"sum": 3}),
            (-5, 70000, [("add", 1, 3)], {"sum": 3}),
            (0, 70000, [("take", 0, 3)], {"sum": 3}),
            (70000, 0, [("take", 3, 0)], {"sum": 3}),
            (0, -70000, [("add", 0, 3)], {"sum": 3}),
            (-70000, 0, [("add", 3, 0)], {"sum": 3}),
            (-70000, -70000, [("take", 3, 3)], {"looked": 3}),
            (65537, 65538, [("take", 3, 3)], {"looked": 3, "sum": 1}),
            (65536 + 256, 65536, [("take", 3, 3)], {"looked": 2, "sum": 2}),
            (0, 255, [], {"short": 1}),
            (-255, 255, [], {"short": 1}),
        ):
            machine = Machine(8, 4)
            self.assertEqual(plain(subtract(machine, big(machine, a), big(machine, b))), a - b)
            self.assertEqual((machine.walk(), counted(machine)), (walk, numbers), (a, b))

    def test_long_borrows(self):
        machine = Machine(8, 4)
        self.assertEqual(subtract(machine, big(machine, 256 ** 9), big(machine, 1)).digits(), [255] * 9)
        self.assertEqual((machine.walk(), counted(machine)), ([("take", 10, 1)], {"sum": 10}))
        machine.reset()
        self.assertEqual(subtract(machine, big(machine, 1), big(machine, 256 ** 9)).sign(), -1)
        self.assertEqual((machine.walk(), counted(machine)), ([("take", 1, 10)], {"sum": 10}))
        machine.reset()
        a, b = 256 ** 9 + 256 ** 7, 256 ** 9 + 1
        self.assertEqual(subtract(machine, big(machine, a), big(machine, b)).digits(), [255] * 7)
        self.assertEqual((machine.walk(), counted(machine)), ([("take", 10, 10)], {"looked": 3, "sum": 8}))


class Rooms(ModelCase):
    def check(self, machine, room, more):
        for function in (added_into, taken_from):
            self.check_call(machine, function, room, more)

    def test_many_rooms(self):
        chance = random.Random(13)
        for parts in MACHINES:
            machine = Machine(*parts)
            top = (1 << parts[0]) - 1
            for step in range(500):
                room = [chance.choice((0, 0, top, top, 1, chance.randrange(top))) for k in range(chance.randrange(9))]
                more = [chance.choice((0, top, 1, chance.randrange(top))) for k in range(chance.randrange(len(room) + 1))]
                self.check(machine, room, more)

    def test_added_into(self):
        for room, more, digits, carry, number in (
            ([], [], [], 0, 0),
            ([5, 255], [], [5, 255], 0, 0),
            ([0, 0], [0], [0, 0], 0, 1),
            ([0, 0], [0, 0], [0, 0], 0, 2),
            ([255, 255, 5, 7], [1], [0, 0, 6, 7], 0, 3),
            ([255, 255, 255], [1], [0, 0, 0], 1, 3),
            ([255, 255], [255, 255], [254, 255], 1, 2),
            ([254, 3, 0], [1], [255, 3, 0], 0, 1),
            ([255], [1], [0], 1, 1),
        ):
            machine = Machine(8, 4)
            self.assertEqual(added_into(machine, room, more), (digits, carry))
            self.assertEqual(machine.walk(), [("add into", len(room), len(more))])
            self.assertEqual(machine.tally(), Machine().tally()[:1] + [("sum", number)] + Machine().tally()[2:])

    def test_taken_from(self):
        for room, more, digits, borrow, number in (
            ([], [], [], 0, 0),
            ([5, 255], [], [5, 255], 0, 0),
            ([0, 0], [0], [0, 0], 0, 1),
            ([0, 0], [1], [255, 255], 1, 2),
            ([0, 0, 6, 7], [1], [255, 255, 5, 7], 0, 3),
            ([0, 0, 0], [0, 1], [0, 255, 255], 1, 3),
            ([4, 4, 0], [4, 4], [0, 0, 0], 0, 2),
            ([0, 1], [0, 2], [0, 255], 1, 2),
            ([0], [255], [1], 1, 1),
        ):
            machine = Machine(8, 4)
            self.assertEqual(taken_from(machine, room, more), (digits, borrow))
            self.assertEqual(machine.walk(), [("take from", len(room), len(more))])
            self.assertEqual(machine.tally(), Machine().tally()[:1] + [("sum", number)] + Machine().tally()[2:])

    def test_kinds_of_the_result(self):
        machine = Machine(8, 4)
        for function in (added_into, taken_from):
            for room, more in (([], []), ([0, 0], [1]), ([255, 1], [1])):
                found = function(machine, room, more)
                self.assertEqual([type(part) for part in (found, *found)], [tuple, list, int])
                self.assertIsNot(found[0], room)

    def test_one_list_for_both(self):
        machine = Machine(8, 4)
        row = [200, 1]
        self.assertEqual(added_into(machine, row, row), ([144, 3], 0))
        self.assertEqual(taken_from(machine, row, row), ([0, 0], 0))
        self.assertEqual(row, [200, 1])
