"""Numbers and machines that several tests go through, and how a result is compared with the model."""

import unittest

from tests.model import Model
from thirtybits.bigs import Big, big, plain
from thirtybits.machines import Machine

MACHINES = ((8, 4), (30, 70), (9, 2), (17, 1000))


def edges(bits):
    """Integers about the bounds of digits, from 0 on."""
    base = 1 << bits
    found = {0, 1, 2, 3}
    for power in (base, base ** 2, base ** 3, base ** 4, base ** 7, base // 2, base ** 2 // 2, 2 ** 61, 2 ** 64):
        found.update([power - 2, power - 1, power, power + 1, power + base - 1, power * (base - 1)])
    return sorted(found)


def both_signs(numbers):
    return [sign * n for n in numbers for sign in (1, -1)]


def counted(machine):
    """The words that were counted, with their numbers."""
    return {word: number for word, number in machine.tally() if number}


class ModelCase(unittest.TestCase):
    def check_call(self, machine, function, *values):
        """Compare result, tally and walk of a function with what the model tells; integers stand for Bigs."""
        model = Model(*machine.parts())
        passed = self.arguments(machine, function, values)
        machine.reset()
        found = function(machine, *passed)
        told = function.__name__, values
        self.check_result(model, found, getattr(model, function.__name__)(*values), told)
        self.assertEqual((machine.tally(), machine.walk()), (model.tally(), model.walk()), told)
        for value, argument in zip(values, passed):
            self.assertEqual(plain(argument) if isinstance(argument, Big) else argument, value)

    def told(self, function, *values):
        """Result, walk and counts of a call on a machine of 8 bits; integers stand for Bigs."""
        machine = Machine(8, 4)
        found = function(machine, *self.arguments(machine, function, values))
        whole = tuple(plain(part) for part in found) if isinstance(found, tuple) else plain(found)
        return whole, machine.walk(), counted(machine)

    def arguments(self, machine, function, values):
        """The arguments behind the machine: Bigs of integers where Bigs are asked for, and copies of lists."""
        names = function.__code__.co_varnames[1:len(values) + 1]
        return [
            big(machine, value) if name in ("x", "y") else list(value) if isinstance(value, list) else value
            for name, value in zip(names, values)
        ]

    def check_result(self, model, found, expected, told):
        if isinstance(found, Big):
            sign = (expected > 0) - (expected < 0)
            whole = expected, sign, model.row(expected), model.bits
            self.assertEqual((plain(found), found.sign(), found.digits(), found.bits()), whole, told)
        elif isinstance(found, tuple):
            self.assertEqual((type(expected), len(expected)), (tuple, len(found)), told)
            for part, other in zip(found, expected):
                self.check_result(model, part, other, told)
        else:
            self.assertEqual((found, type(found)), (expected, type(expected)), told)
