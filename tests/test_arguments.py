"""Points 2 and 4: arguments by position and by name, what stays as it was, and wrong arguments."""

import inspect
import itertools
import unittest

from tests import kinds
from thirtybits import bigs, bitwise, division, karatsuba, products, shifts, sums, wholes
from thirtybits.bigs import big
from thirtybits.errors import InvalidBound, TooGreat, ZeroDivisor
from thirtybits.machines import Machine

# Each function with its arguments; for each argument the kind that it must have.
FUNCTIONS = {
    bigs.big: {"machine": "machine", "n": "integer"},
    bigs.normal: {"machine": "machine", "sign": "sign", "digits": "row"},
    bigs.plain: {"x": "any big"},
    bigs.compare: {"machine": "machine", "x": "big", "y": "big"},
    bigs.bit_length: {"x": "any big"},
    bigs.bit_count: {"x": "any big"},
    bigs.hash_of: {"x": "any big"},
    bigs.negative: {"x": "any big"},
    bigs.absolute: {"x": "any big"},
    sums.add: {"machine": "machine", "x": "big", "y": "big"},
    sums.subtract: {"machine": "machine", "x": "big", "y": "big"},
    sums.added_into: {"machine": "machine", "room": "row", "more": "more"},
    sums.taken_from: {"machine": "machine", "room": "row", "more": "more"},
    products.multiply_by_rows: {"machine": "machine", "x": "big", "y": "big"},
    products.square_by_rows: {"machine": "machine", "x": "big"},
    karatsuba.multiply: {"machine": "machine", "x": "big", "y": "big"},
    karatsuba.square: {"machine": "machine", "x": "big"},
    division.truncated: {"machine": "machine", "x": "big", "y": "divisor"},
    division.divide_both: {"machine": "machine", "x": "big", "y": "divisor"},
    division.floor_divide: {"machine": "machine", "x": "big", "y": "divisor"},
    division.modulo: {"machine": "machine", "x": "big", "y": "divisor"},
    division.long_walk: {"machine": "machine", "x": "long", "y": "long divisor"},
    shifts.shift_left: {"machine": "machine", "x": "big", "count": "count"},
    shifts.shift_right: {"machine": "machine", "x": "big", "count": "count"},
    shifts.shift_row_up: {"machine": "machine", "digits": "row", "count": "small count"},
    shifts.shift_row_down: {"machine": "machine", "digits": "row", "count": "small count"},
    bitwise.bit_and: {"machine": "machine", "x": "big", "y": "big"},
    bitwise.bit_or: {"machine": "machine", "x": "big", "y": "big"},
    bitwise.bit_xor: {"machine": "machine", "x": "big", "y": "big"},
    bitwise.bit_not: {"machine": "machine", "x": "big"},
    bitwise.complement: {"machine": "machine", "digits": "row"},
}
MODULES = {
    "thirtybits.bigs": bigs,
    "thirtybits.sums": sums,
    "thirtybits.products": products,
    "thirtybits.karatsuba": karatsuba,
    "thirtybits.division": division,
    "thirtybits.shifts": shifts,
    "thirtybits.bitwise": bitwise,
}
# The integers of right Bigs, for each kind that is a Big.
NUMBERS = {
    "any big": (0, -5, 70000, -256 ** 6),
    "big": (0, -5, 70000, -256 ** 6),
    "divisor": (-5, 70000, -256 ** 3),
    "long": (256 ** 3, -256 ** 6),
    "long divisor": (-70000, 256 ** 2),
}


def used_machine():
    """A machine of 8 bits with a tally and a walk of its own."""
    machine = Machine(8, 4)
    sums.add(machine, big(machine, 70000), big(machine, -70001))
    karatsuba.multiply(machine, big(machine, 3), big(machine, 4))
    return machine


def state(machine):
    return machine.parts(), machine.tally(), machine.walk()


def right_values(machine, kind):
    """Some values that an argument of a kind may have."""
    if kind == "machine":
        return [machine]
    if kind == "integer":
        return kinds.integers()
    if kind == "sign":
        return [1, -1]
    if kind == "row":
        return [[0, 255, 7], [1, 2, 3, 0]]
    if kind == "more":
        return [[], [255], [1, 2, 0]]
    if kind == "count":
        return [0, 7, 8, 100]
    if kind == "small count":
        return [0, 1, 7]
    return [big(machine, n) for n in NUMBERS[kind]]


def wrong_values(kind):
    """Values of every built-in kind but floats, and of the classes of the interface, that are not of a kind."""
    others = kinds.no_integers() + kinds.lists()
    if kind == "machine":
        return others + kinds.integers() + kinds.bigs() + [[], [8, 4]]
    if kind == "integer":
        return others + kinds.bigs() + kinds.machines() + [[], [1]]
    if kind == "sign":
        return others + kinds.bigs() + kinds.machines() + [[], [1], 2, -2, 255, 2 ** 70, -2 ** 70]
    if kind in ("row", "more"):
        wrong = others + kinds.integers() + kinds.bigs() + kinds.machines() + [[256], [0, -1], [0, 0, 256]]
        return wrong + [[0] * 5] if kind == "more" else wrong
    if kind in ("count", "small count"):
        wrong = others + kinds.bigs() + kinds.machines() + [[], [1], -1, -2 ** 70]
        return wrong + [8, 9, 30, 2 ** 70] if kind == "small count" else wrong
    wrong = others + kinds.integers() + kinds.machines() + [[], [1]]
    if kind == "long divisor":
        wrong += [big(Machine(8), n) for n in (0, 1, -255)]
    return wrong if kind == "any big" else wrong + kinds.bigs()


def right_call(machine, asked):
    return {name: right_values(machine, kind)[-1] for name, kind in asked.items()}


class Names(unittest.TestCase):
    def test_every_function_is_where_it_is_listed(self):
        for function in FUNCTIONS:
            self.assertIs(getattr(MODULES[function.__module__], function.__name__), function)
        self.assertEqual(wholes.is_integer.__module__, "thirtybits.wholes")

    def test_names_and_defaults(self):
        for function, asked in FUNCTIONS.items():
            found = inspect.signature(function).parameters
            self.assertEqual(list(found), list(asked))
            for parameter in found.values():
                self.assertEqual((parameter.kind, parameter.default), (parameter.POSITIONAL_OR_KEYWORD, parameter.empty))
        self.assertEqual(str(inspect.signature(Machine)), "(bits=30, cutoff=70)")
        self.assertEqual(list(inspect.signature(wholes.is_integer).parameters), ["value"])

    def test_by_position_and_by_name(self):
        for function, asked in FUNCTIONS.items():
            choices = [[kind] if kind == "machine" or kind in NUMBERS else right_values(None, kind)
                       for kind in asked.values()]
            for chosen in itertools.product(*choices):
                found = []
                for way in ("position", "name", "turned", "mixed"):
                    machine = Machine(8, 4)
                    values = [self.value(machine, value) for value in chosen]
                    result = self.call(function, list(asked), values, way)
                    found.append((result, state(machine)))
                self.assertEqual(found, found[:1] * 4, function)

    def value(self, machine, value):
        if value == "machine":
            return machine
        return big(machine, -70000) if isinstance(value, str) else value

    def call(self, function, names, values, way):
        """Call a function by position, by name, by name with the last argument first, or by both."""
        if way == "position":
            return function(*values)
        if way == "mixed":
            return function(*values[:1], **dict(zip(names[1:], values[1:])))
        pairs = list(zip(names, values))
        return function(**dict(pairs[::-1] if way == "turned" else pairs))


class Staying(unittest.TestCase):
    def test_same_call_same_result_and_same_counts(self):
        for function, asked in FUNCTIONS.items():
            found = []
            for step in range(2):
                machine = Machine(8, 4)
                call = right_call(machine, asked)
                first = function(**call)
                counts = [number for word, number in machine.tally()]
                walk = machine.walk()
                self.assertEqual(function(**call), first)
                self.assertEqual([number for word, number in machine.tally()], [2 * number for number in counts])
                self.assertEqual(machine.walk(), walk * 2)
                found.append((first, counts, walk))
            self.assertEqual(found[0], found[1])

    def test_arguments_and_earlier_results_stay(self):
        for function, asked in FUNCTIONS.items():
            machine = Machine(8, 4)
            for values in itertools.product(*[right_values(machine, kind) for kind in asked.values()]):
                before = [self.told(value) for value in values]
                result = function(*values)
                self.assertEqual([self.told(value) for value in values], before)
                told = self.told(result)
                self.spoil(result)
                self.assertEqual(self.told(function(*values)), told)

    def told(self, value):
        """What can be seen of a value, except for a machine's counts."""
        if isinstance(value, Machine):
            return value.parts()
        if isinstance(value, bigs.Big):
            return value.sign(), value.digits(), value.bits()
        return [self.told(item) for item in value] if isinstance(value, (list, tuple)) else value

    def spoil(self, result):
        """Change each list that a function gave."""
        if isinstance(result, bigs.Big):
            result.digits().append(1)
        if isinstance(result, list):
            result.append(1)
        if isinstance(result, tuple):
            for part in result:
                self.spoil(part)


class Wrong(unittest.TestCase):
    def refuse(self, function, call, argument, machine, told):
        """Check that a call raises for this argument and leaves a machine as it was."""
        before = state(machine)
        try:
            function(**call)
        except InvalidBound as error:
            self.assertEqual(error.argument, argument, told)
        else:
            self.fail(told)
        self.assertEqual(state(machine), before, told)

    def test_each_argument(self):
        machine = used_machine()
        for function, asked in FUNCTIONS.items():
            for name, kind in asked.items():
                for place, value in enumerate(wrong_values(kind)):
                    call = right_call(machine, asked)
                    call[name] = value
                    # The value itself may be nested too deep to be told.
                    self.refuse(function, call, name, machine, (function.__name__, name, place))

    def test_the_first_of_several_is_told(self):
        machine = used_machine()
        for function, asked in FUNCTIONS.items():
            for size in range(2, len(asked) + 1):
                for names in itertools.combinations(asked, size):
                    for wrong in wrong_values(asked[names[0]])[::9] + [None, "x", (), {}]:
                        for other in (None, True, "x", [[]], machine, big(Machine(9), 1)):
                            call = right_call(machine, asked)
                            call.update(dict.fromkeys(names, other))
                            call[names[0]] = wrong
                            self.refuse(function, call, names[0], machine, (function.__name__, names))

    def test_bigs_of_other_bits(self):
        for function, asked in FUNCTIONS.items():
            if "machine" not in asked or "x" not in asked:
                continue
            for bits in (8, 9, 30):
                machine = Machine(bits, 4)
                for other in (8, 9, 29, 30):
                    for n in (0, 1, 2 ** 80):
                        call = right_call(machine, asked)
                        call.update({name: big(Machine(other), n) for name in ("x", "y") if name in asked})
                        if other == bits:
                            self.call_unless_refused(function, call, n)
                            continue
                        self.refuse(function, call, "x", machine, (function.__name__, bits, other))
                        if "y" in asked:
                            call["x"] = big(machine, n)
                            self.refuse(function, call, "y", machine, (function.__name__, bits, other))

    def call_unless_refused(self, function, call, n):
        """Call a function with the numbers n, unless it is one that does not take them."""
        if n > 1 or "divisor" not in FUNCTIONS[function].get("y", ""):
            function(**call)

    def test_bigs_of_another_machine_with_the_same_bits(self):
        machine = Machine(8, 4)
        x = big(Machine(8, 900), 70000)
        self.assertEqual(sums.add(machine, x, x), big(machine, 140000))
        self.assertEqual(machine.walk(), [("add", 3, 3)])

    def test_digits_for_the_bits_of_the_machine(self):
        for bits in (8, 9, 30):
            machine = Machine(bits)
            top = (1 << bits) - 1
            for function in (sums.added_into, sums.taken_from):
                function(machine, [top, 0], [0, top])
                self.refuse(function, {"machine": machine, "room": [top + 1, 0], "more": [0]}, "room", machine, bits)
                self.refuse(function, {"machine": machine, "room": [top, 0], "more": [top + 1]}, "more", machine, bits)
                self.refuse(function, {"machine": machine, "room": [top, 0], "more": [0] * 3}, "more", machine, bits)
                self.refuse(function, {"machine": machine, "room": [], "more": [0]}, "more", machine, bits)

    def test_counts_for_the_bits_of_the_machine(self):
        for bits in (8, 9, 30):
            machine = Machine(bits)
            for function in (shifts.shift_row_up, shifts.shift_row_down):
                function(machine, [1], bits - 1)
                for count in (bits, bits + 1, -1):
                    self.refuse(function, {"machine": machine, "digits": [1], "count": count}, "count", machine, count)

    def test_numbers_that_do_not_divide_long(self):
        machine = used_machine()
        for x, y, argument in (
            (70000, 0, "y"), (70000, 255, "y"), (70000, -1, "y"), (0, 0, "y"), (0, 70000, "x"), (5, 256, "x"),
            (256 ** 2 - 1, 256 ** 2, "x"), (-(256 ** 3) - 5, 2 * 256 ** 3, "x"), (511, 512, "x"),
        ):
            call = {"machine": machine, "x": big(machine, x), "y": big(machine, y)}
            self.refuse(division.long_walk, call, argument, machine, (x, y))

    def test_other_errors_come_behind_wrong_arguments(self):
        machine = used_machine()
        one, zero = big(machine, 1), big(machine, 0)
        for function in (division.truncated, division.divide_both, division.floor_divide, division.modulo):
            self.refuse(function, {"machine": machine, "x": big(Machine(), 1), "y": zero}, "x", machine, "x")
            self.refuse(function, {"machine": machine, "x": one, "y": big(Machine(), 0)}, "y", machine, "y")
            self.refuse(function, {"machine": Machine, "x": one, "y": zero}, "machine", machine, "machine")
        for count in (100001, 2 ** 70):
            self.refuse(shifts.shift_left, {"machine": machine, "x": 1, "count": count}, "x", machine, "x")
            self.refuse(shifts.shift_left, {"machine": None, "x": one, "count": count}, "machine", machine, "machine")

    def test_zero_divisors(self):
        machine = used_machine()
        before = state(machine)
        for function in (division.truncated, division.divide_both, division.floor_divide, division.modulo):
            for x in (0, 1, -255, 256, -(256 ** 5)):
                with self.assertRaises(ZeroDivisor):
                    function(machine, big(machine, x), big(machine, 0))
                self.assertEqual(state(machine), before)

    def test_too_great_shifts(self):
        machine = used_machine()
        before = state(machine)
        for x in (1, -1, 256, -(256 ** 5)):
            for count in (100001, 2 ** 70):
                with self.assertRaises(TooGreat):
                    shifts.shift_left(machine, big(machine, x), count)
                self.assertEqual(state(machine), before)

    def test_a_wrong_argument_does_not_change_lists(self):
        machine = used_machine()
        room, more = [255, 255], [1, 2, True]
        self.refuse(sums.added_into, {"machine": machine, "room": room, "more": more}, "more", machine, "more")
        self.assertEqual((room, more), ([255, 255], [1, 2, True]))
