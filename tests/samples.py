"""Numbers and machines that several tests go through, and how a result is compared with the model."""

import unittest

from tests.later_model import LaterModel
from thirtybits.bigs import Big, big, plain
from thirtybits.machines import Machine

MACHINES = ((8, 4), (30, 70), (9, 2), (17, 1000))


def edges(bits):
    """Integers about the bounds of digits, from 0 on."""
    base = 1 << bits
    found = {0, 1, 2, 3}
    for power in (base, base ** 2, base ** 3, base ** 4, base ** 7, base // 2, base ** 2 // 2, 2 ** 61, 2 ** 64):
        found.update([power - 2, power - 1, power, power + 1, power + base - 1, power * (base - 1)])
    return sorted(found)


def both_signs(numbers):
    return [sign * n for n in numbers for sign in (1, -1)]


def counted(machine):
    """The words that were counted, with their numbers."""
    return {word: number for word, number in machine.tally() if number}


class ModelCase(unittest.TestCase):
    def check_call(self, machine, function, *values, **named):
        """Compare result, tally and walk of a function with what the model tells; integers stand for Bigs."""
        model = LaterModel(*machine.parts())
        passed = self.arguments(machine, function, values)
        passed_by_name = {name: self.argument(machine, name, value) for name, value in named.items()}
        machine.reset()
        found = function(machine, *passed, **passed_by_name)
        told = function.__name__, values, named
        self.check_result(model, found, getattr(model, function.__name__)(*values, **named), told)
        self.assertEqual((machine.tally(), machine.walk()), (model.tally(), model.walk()), told)
        self.assertEqual([self.whole(argument) for argument in passed], list(values))
        self.assertEqual({name: self.whole(argument) for name, argument in passed_by_name.items()}, named)

    def told(self, function, *values, **named):
        """Result, walk and counts of a call on a machine of 8 bits; integers stand for Bigs."""
        machine = Machine(8, 4)
        named = {name: self.argument(machine, name, value) for name, value in named.items()}
        found = function(machine, *self.arguments(machine, function, values), **named)
        return self.whole(found), machine.walk(), counted(machine)

    def arguments(self, machine, function, values):
        """The arguments behind the machine, by their names."""
        names = function.__code__.co_varnames[1:len(values) + 1]
        return [self.argument(machine, name, value) for name, value in zip(names, values)]

    def argument(self, machine, name, value):
        """What is passed for a value: Bigs for integers where Bigs are asked for, and copies of lists."""
        if name == "values":
            return [big(machine, item) for item in value]
        if name in ("x", "y") or (name == "modulus" and value is not None):
            return big(machine, value)
        return list(value) if isinstance(value, list) else value

    def whole(self, value):
        """Integers for Bigs, also within lists and tuples."""
        if isinstance(value, (list, tuple)):
            return type(value)(self.whole(item) for item in value)
        return plain(value) if isinstance(value, Big) else value

    def refused(self, kind, machine, function, *arguments, **named):
        """The error of a class that a call raises; tally and walk stay as they were."""
        before = machine.tally(), machine.walk()
        with self.assertRaises(kind) as caught:
            function(*arguments, **named)
        self.assertEqual((machine.tally(), machine.walk()), before)
        self.assertIs(type(caught.exception), kind)
        return caught.exception

    def check_result(self, model, found, expected, told):
        if isinstance(found, Big):
            sign = (expected > 0) - (expected < 0)
            whole = expected, sign, model.row(expected), model.bits
            self.assertEqual((plain(found), found.sign(), found.digits(), found.bits()), whole, told)
        elif isinstance(found, tuple):
            self.assertEqual((type(expected), len(expected)), (tuple, len(found)), told)
            for part, other in zip(found, expected):
                self.check_result(model, part, other, told)
        else:
            self.assertEqual((found, type(found)), (expected, type(expected)), told)
