"""Numbers and machines that several tests go through, and how a result is compared with the model."""

import unittest

from tests.model import Model
from thirtybits.bigs import big, plain

MACHINES = ((8, 4), (30, 70), (9, 2), (17, 1000))


def edges(bits):
    """Integers about the bounds of digits, from 0 on."""
    base = 1 << bits
    found = {0, 1, 2, 3}
    for power in (base, base ** 2, base ** 3, base ** 4, base ** 7, base // 2, base ** 2 // 2, 2 ** 61, 2 ** 64):
        found.update([power - 2, power - 1, power, power + 1, power + base - 1, power * (base - 1)])
    return sorted(found)


def both_signs(numbers):
    return [sign * n for n in numbers for sign in (1, -1)]


def counted(machine):
    """The words that were counted, with their numbers."""
    return {word: number for word, number in machine.tally() if number}


class ModelCase(unittest.TestCase):
    def check_call(self, machine, function, *numbers):
        """Compare result, tally and walk of a function of Bigs with what the model tells for their integers."""
        model = Model(*machine.parts())
        bigs = [big(machine, n) for n in numbers]
        machine.reset()
        found = function(machine, *bigs)
        expected = getattr(model, function.__name__)(*numbers)
        told = function.__name__, numbers
        self.assertEqual((plain(found), found), (expected, big(machine, expected)), told)
        self.assertEqual((machine.tally(), machine.walk()), (model.tally(), model.walk()), told)
        self.assertEqual([plain(x) for x in bigs], list(numbers))
