"""Points 2 and 4: arguments by position and by name, what stays as it was, and wrong arguments."""

import inspect
import itertools
import unittest

from tests import kinds
from thirtybits import bigs, karatsuba, products, sums, wholes
from thirtybits.bigs import big
from thirtybits.errors import InvalidBound
from thirtybits.machines import Machine

# Each function with its arguments; for each argument the kind that it must have.
FUNCTIONS = {
    bigs.big: {"machine": "machine", "n": "integer"},
    bigs.normal: {"machine": "machine", "sign": "sign", "digits": "row"},
    bigs.plain: {"x": "any big"},
    bigs.compare: {"machine": "machine", "x": "big", "y": "big"},
    bigs.bit_length: {"x": "any big"},
    bigs.bit_count: {"x": "any big"},
    bigs.hash_of: {"x": "any big"},
    bigs.negative: {"x": "any big"},
    bigs.absolute: {"x": "any big"},
    sums.add: {"machine": "machine", "x": "big", "y": "big"},
    sums.subtract: {"machine": "machine", "x": "big", "y": "big"},
    sums.added_into: {"machine": "machine", "room": "row", "more": "more"},
    sums.taken_from: {"machine": "machine", "room": "row", "more": "more"},
    products.multiply_by_rows: {"machine": "machine", "x": "big", "y": "big"},
    products.square_by_rows: {"machine": "machine", "x": "big"},
    karatsuba.multiply: {"machine": "machine", "x": "big", "y": "big"},
    karatsuba.square: {"machine": "machine", "x": "big"},
}
MODULES = {
    "thirtybits.bigs": bigs,
    "thirtybits.sums": sums,
    "thirtybits.products": products,
    "thirtybits.karatsuba": karatsuba,
}


def used_machine():
    """A machine of 8 bits with a tally and a walk of its own."""
    machine = Machine(8, 4)
    sums.add(machine, big(machine, 70000), big(machine, -70001))
    karatsuba.multiply(machine, big(machine, 3), big(machine, 4))
    return machine


def state(machine):
    return machine.parts(), machine.tally(), machine.walk()


def right_values(machine, kind):
    """Some values that an argument of a kind may have."""
    if kind == "machine":
        return [machine]
    if kind == "integer":
        return kinds.integers()
    if kind == "sign":
        return [1, -1]
    if kind == "row":
        return [[0, 255, 7], [1, 2, 3, 0]]
    if kind == "more":
        return [[], [255], [1, 2, 0]]
    return [big(machine, n) for n in (0, -5, 70000, -256 ** 6)]


def wrong_values(kind):
    """Values of every built-in kind but floats, and of the classes of the interface, that are not of a kind."""
    others = kinds.no_integers() + kinds.lists()
    if kind == "machine":
        return others + kinds.integers() + kinds.bigs() + [[], [8, 4]]
    if kind == "integer":
        return others + kinds.bigs() + kinds.machines() + [[], [1]]
    if kind == "sign":
        return others + kinds.bigs() + kinds.machines() + [[], [1], 2, -2, 255, 2 ** 70, -2 ** 70]
    if kind in ("row", "more"):
        wrong = others + kinds.integers() + kinds.bigs() + kinds.machines() + [[256], [0, -1], [0, 0, 256]]
        return wrong + [[0] * 5] if kind == "more" else wrong
    wrong = others + kinds.integers() + kinds.machines() + [[], [1]]
    return wrong + kinds.bigs() if kind == "big" else wrong


def right_call(machine, asked):
    return {name: right_values(machine, kind)[-1] for name, kind in asked.items()}


class Names(unittest.TestCase):
    def test_every_function_is_where_it_is_listed(self):
        for function in FUNCTIONS:
            self.assertIs(getattr(MODULES[function.__module__], function.__name__), function)
        self.assertEqual(wholes.is_integer.__module__, "thirtybits.wholes")

    def test_names_and_defaults(self):
        for function, asked in FUNCTIONS.items():
            found = inspect.signature(function).parameters
            self.assertEqual(list(found), list(asked))
            for parameter in found.values():
                self.assertEqual((parameter.kind, parameter.default), (parameter.POSITIONAL_OR_KEYWORD, parameter.empty))
        self.assertEqual(str(inspect.signature(Machine)), "(bits=30, cutoff=70)")
        self.assertEqual(list(inspect.signature(wholes.is_integer).parameters), ["value"])

    def test_by_position_and_by_name(self):
        for function, asked in FUNCTIONS.items():
            choices = [right_values(None, kind) if kind in ("integer", "sign", "row", "more") else [kind]
                       for kind in asked.values()]
            for chosen in itertools.product(*choices):
                found = []
                for way in ("position", "name", "turned", "mixed"):
                    machine = Machine(8, 4)
                    values = [self.value(machine, value) for value in chosen]
                    result = self.call(function, list(asked), values, way)
                    found.append((result, state(machine)))
                self.assertEqual(found, found[:1] * 4, function)

    def value(self, machine, value):
        if value == "machine":
            return machine
        return big(machine, -70000) if value in ("big", "any big") else value

    def call(self, function, names, values, way):
        """Call a function by position, by name, by name with the last argument first, or by both."""
        if way == "position":
            return function(*values)
        if way == "mixed":
            return function(*values[:1], **dict(zip(names[1:], values[1:])))
        pairs = list(zip(names, values))
        return function(**dict(pairs[::-1] if way == "turned" else pairs))


class Staying(unittest.TestCase):
    def test_same_call_same_result_and_same_counts(self):
        for function, asked in FUNCTIONS.items():
            found = []
            for step in range(2):
                machine = Machine(8, 4)
                call = right_call(machine, asked)
                first = function(**call)
                counts = [number for word, number in machine.tally()]
                walk = machine.walk()
                self.assertEqual(function(**call), first)
                self.assertEqual([number for word, number in machine.tally()], [2 * number for number in counts])
                self.assertEqual(machine.walk(), walk * 2)
                found.append((first, counts, walk))
            self.assertEqual(found[0], found[1])

    def test_arguments_and_earlier_results_stay(self):
        for function, asked in FUNCTIONS.items():
            machine = Machine(8, 4)
            for values in itertools.product(*[right_values(machine, kind) for kind in asked.values()]):
                before = [self.told(value) for value in values]
                result = function(*values)
                self.assertEqual([self.told(value) for value in values], before)
                told = self.told(result)
                self.spoil(result)
                self.assertEqual(self.told(function(*values)), told)

    def told(self, value):
        """What can be seen of a value, except for a machine's counts."""
        if isinstance(value, Machine):
            return value.parts()
        if isinstance(value, bigs.Big):
            return value.sign(), value.digits(), value.bits()
        return [self.told(item) for item in value] if isinstance(value, (list, tuple)) else value

    def spoil(self, result):
        """Change each list that a function gave."""
        if isinstance(result, bigs.Big):
            result.digits().append(1)
        if isinstance(result, tuple):
            result[0].append(1)


class Wrong(unittest.TestCase):
    def refuse(self, function, call, argument, machine, told):
        """Check that a call raises for this argument and leaves a machine as it was."""
        before = state(machine)
        try:
            function(**call)
        except InvalidBound as error:
            self.assertEqual(error.argument, argument, told)
        else:
            self.fail(told)
        self.assertEqual(state(machine), before, told)

    def test_each_argument(self):
        machine = used_machine()
        for function, asked in FUNCTIONS.items():
            for name, kind in asked.items():
                for place, value in enumerate(wrong_values(kind)):
                    call = right_call(machine, asked)
                    call[name] = value
                    # The value itself may be nested too deep to be told.
                    self.refuse(function, call, name, machine, (function.__name__, name, place))

    def test_the_first_of_several_is_told(self):
        machine = used_machine()
        for function, asked in FUNCTIONS.items():
            for size in range(2, len(asked) + 1):
                for names in itertools.combinations(asked, size):
                    for wrong in wrong_values(asked[names[0]])[::9] + [None, "x", (), {}]:
                        for other in (None, True, "x", [[]], machine, big(Machine(9), 1)):
                            call = right_call(machine, asked)
                            call.update(dict.fromkeys(names, other))
                            call[names[0]] = wrong
                            self.refuse(function, call, names[0], machine, (function.__name__, names))

    def test_bigs_of_other_bits(self):
        for function, asked in FUNCTIONS.items():
            if "machine" not in asked or "x" not in asked:
                continue
            for bits in (8, 9, 30):
                machine = Machine(bits, 4)
                for other in (8, 9, 29, 30):
                    for n in (0, 1, 2 ** 80):
                        call = {name: big(Machine(other), n) for name in asked}
                        call["machine"] = machine
                        if other == bits:
                            function(**call)
                            continue
                        self.refuse(function, call, "x", machine, (function.__name__, bits, other))
                        if "y" in asked:
                            call["x"] = big(machine, n)
                            self.refuse(function, call, "y", machine, (function.__name__, bits, other))

    def test_bigs_of_another_machine_with_the_same_bits(self):
        machine = Machine(8, 4)
        x = big(Machine(8, 900), 70000)
        self.assertEqual(sums.add(machine, x, x), big(machine, 140000))
        self.assertEqual(machine.walk(), [("add", 3, 3)])

    def test_digits_for_the_bits_of_the_machine(self):
        for bits in (8, 9, 30):
            machine = Machine(bits)
            top = (1 << bits) - 1
            for function in (sums.added_into, sums.taken_from):
                function(machine, [top, 0], [0, top])
                self.refuse(function, {"machine": machine, "room": [top + 1, 0], "more": [0]}, "room", machine, bits)
                self.refuse(function, {"machine": machine, "room": [top, 0], "more": [top + 1]}, "more", machine, bits)
                self.refuse(function, {"machine": machine, "room": [top, 0], "more": [0] * 3}, "more", machine, bits)
                self.refuse(function, {"machine": machine, "room": [], "more": [0]}, "more", machine, bits)

    def test_a_wrong_argument_does_not_change_lists(self):
        machine = used_machine()
        room, more = [255, 255], [1, 2, True]
        self.refuse(sums.added_into, {"machine": machine, "room": room, "more": more}, "more", machine, "more")
        self.assertEqual((room, more), ([255, 255], [1, 2, True]))
