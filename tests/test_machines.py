"""Point 5: machines, their tally and their walk."""

import unittest
from unittest import mock

from tests.kinds import bigs, lists, nested, no_integers
from tests.model import WORDS
from thirtybits.bigs import big, compare
from thirtybits.errors import InvalidMachine
from thirtybits.machines import Machine
from thirtybits.sums import add, added_into

NOTHING = [(word, 0) for word in WORDS]


def part_of(**parts):
    """The part for which no machine is made."""
    try:
        Machine(**parts)
    except InvalidMachine as error:
        return error.part


class Making(unittest.TestCase):
    def test_parts(self):
        self.assertEqual(Machine().parts(), (30, 70))
        self.assertEqual(Machine(8).parts(), (8, 70))
        self.assertEqual(Machine(8, 4).parts(), (8, 4))
        self.assertEqual(Machine(cutoff=4, bits=8).parts(), (8, 4))
        self.assertEqual(Machine(cutoff=4).parts(), (30, 4))
        self.assertIs(type(Machine().parts()), tuple)

    def test_bounds(self):
        for bits in range(8, 31):
            self.assertEqual(Machine(bits).parts(), (bits, 70))
        for cutoff in (2, 3, 999, 1000):
            self.assertEqual(Machine(9, cutoff).parts(), (9, cutoff))
        for bits in (7, 31, 0, -8, -30, 2 ** 70):
            self.assertEqual(part_of(bits=bits), "bits")
        for cutoff in (1, 1001, 0, -2, 2 ** 70):
            self.assertEqual(part_of(cutoff=cutoff), "cutoff")

    def test_wrong_kinds(self):
        for place, value in enumerate(no_integers() + lists() + bigs() + [Machine(), [8]]):
            self.assertEqual(part_of(bits=value), "bits", place)
            self.assertEqual(part_of(cutoff=value), "cutoff", place)
            self.assertEqual(part_of(bits=value, cutoff=value), "bits", place)
            self.assertEqual(part_of(bits=7, cutoff=value), "bits", place)
            self.assertEqual(part_of(bits=8, cutoff=value), "cutoff", place)
        self.assertEqual(part_of(bits=31, cutoff=1), "bits")
        self.assertEqual(part_of(bits=30, cutoff=1), "cutoff")


class Counting(unittest.TestCase):
    def test_new(self):
        machine = Machine()
        self.assertEqual(machine.tally(), NOTHING)
        self.assertEqual(machine.walk(), [])

    def test_words_in_their_order(self):
        words = "short sum product quotient corrected restored shifted combined complemented looked".split()
        self.assertEqual([word for word, number in Machine().tally()], words)

    def test_results_belong_to_the_caller(self):
        machine = Machine(8, 4)
        add(machine, big(machine, 2000), big(machine, 4000))
        tally, walk = machine.tally(), machine.walk()
        self.assertIsInstance(tally[0], tuple)
        self.assertIsInstance(walk[0], tuple)
        tally.clear()
        walk.append("more")
        self.assertEqual(machine.tally(), [(word, 2 * (word == "sum")) for word in WORDS])
        self.assertEqual(machine.walk(), [("add", 2, 2)])

    def test_earlier_results_stay(self):
        machine = Machine(8, 4)
        tally, walk = machine.tally(), machine.walk()
        added_into(machine, [1, 2], [3])
        self.assertEqual((tally, walk), (NOTHING, []))
        tally, walk = machine.tally(), machine.walk()
        machine.reset()
        self.assertEqual((tally[1], walk), (("sum", 1), [("add into", 2, 1)]))

    def test_walk_ends_at_a_thousand(self):
        machine = Machine(8, 4)
        for size in range(1003):
            added_into(machine, [0] * size, [])
            self.assertEqual(len(machine.walk()), min(size + 1, 1000))
        self.assertEqual(machine.walk(), [("add into", size, 0) for size in range(1000)])
        added_into(machine, [0, 0], [1, 1])
        self.assertEqual(len(machine.walk()), 1000)
        self.assertEqual(machine.tally()[1], ("sum", 2))

    def test_reset(self):
        machine = Machine(8, 4)
        for size in range(1001):
            added_into(machine, [0] * 5, [1])
        compare(machine, big(machine, 1), big(machine, 2))
        self.assertIs(machine.reset(), None)
        self.assertEqual((machine.tally(), machine.walk(), machine.parts()), (NOTHING, [], (8, 4)))
        added_into(machine, [0] * 5, [1])
        self.assertEqual((machine.tally()[1], machine.walk()), (("sum", 1), [("add into", 5, 1)]))

    def test_machines_count_for_themselves(self):
        first, second = Machine(8, 4), Machine(8, 4)
        added_into(first, [0], [1])
        self.assertEqual((second.tally(), second.walk()), (NOTHING, []))
        add(second, big(first, 500), big(first, 500))
        self.assertEqual((first.walk(), second.walk()), ([("add into", 1, 1)], [("add", 2, 2)]))


class Equality(unittest.TestCase):
    def test_equal(self):
        first, second = Machine(8, 4), Machine(8, 4)
        added_into(first, [0], [1])
        self.assertTrue(first == second)
        self.assertFalse(first != second)
        self.assertTrue(Machine() == Machine(30, 70))

    def test_not_equal(self):
        others = [Machine(9, 4), Machine(8, 5), Machine(4 + 4, 8), Machine(), (8, 4), [8, 4], 8, None, Machine, "8",
                  mock.ANY, nested(lambda value: [value]), big(Machine(8, 4), 8)]
        for place, other in enumerate(others):
            self.assertTrue((Machine(8, 4) == other) is False, place)
            self.assertTrue((Machine(8, 4) != other) is True, place)

    def test_methods_stand_in_the_class(self):
        for name in ("parts", "tally", "walk", "reset", "__eq__"):
            self.assertIn(name, vars(Machine))
        self.assertEqual(Machine.__module__, "thirtybits.machines")
