"""Points 2 and 4: arguments by position and by name, what stays as it was, and wrong arguments."""

import inspect
import itertools
import unittest

from tests import kinds
from thirtybits import bigs, bitwise, byterows, desks, division, gcds, halves, karatsuba, powers, products, roots
from thirtybits import shifts, sums, texts, trees, wholes
from thirtybits.bigs import big
from thirtybits.errors import InvalidBound, InvalidText, TooGreat, ZeroDivisor
from thirtybits.machines import Machine

# Each function with its arguments, also those behind a star; for each argument the kind that it must have.
FUNCTIONS = {
    bigs.big: {"machine": "machine", "n": "integer"},
    bigs.normal: {"machine": "machine", "sign": "sign", "digits": "row"},
    bigs.plain: {"x": "any big"},
    bigs.compare: {"machine": "machine", "x": "big", "y": "big"},
    bigs.bit_length: {"x": "any big"},
    bigs.bit_count: {"x": "any big"},
    bigs.hash_of: {"x": "any big"},
    bigs.negative: {"x": "any big"},
    bigs.absolute: {"x": "any big"},
    sums.add: {"machine": "machine", "x": "big", "y": "big"},
    sums.subtract: {"machine": "machine", "x": "big", "y": "big"},
    sums.added_into: {"machine": "machine", "room": "row", "more": "more"},
    sums.taken_from: {"machine": "machine", "room": "row", "more": "more"},
    products.multiply_by_rows: {"machine": "machine", "x": "big", "y": "big"},
    products.square_by_rows: {"machine": "machine", "x": "big"},
    karatsuba.multiply: {"machine": "machine", "x": "big", "y": "big"},
    karatsuba.square: {"machine": "machine", "x": "big"},
    division.truncated: {"machine": "machine", "x": "big", "y": "divisor"},
    division.divide_both: {"machine": "machine", "x": "big", "y": "divisor"},
    division.floor_divide: {"machine": "machine", "x": "big", "y": "divisor"},
    division.modulo: {"machine": "machine", "x": "big", "y": "divisor"},
    division.long_walk: {"machine": "machine", "x": "long", "y": "long divisor"},
    shifts.shift_left: {"machine": "machine", "x": "big", "count": "count"},
    shifts.shift_right: {"machine": "machine", "x": "big", "count": "count"},
    shifts.shift_row_up: {"machine": "machine", "digits": "row", "count": "small count"},
    shifts.shift_row_down: {"machine": "machine", "digits": "row", "count": "small count"},
    bitwise.bit_and: {"machine": "machine", "x": "big", "y": "big"},
    bitwise.bit_or: {"machine": "machine", "x": "big", "y": "big"},
    bitwise.bit_xor: {"machine": "machine", "x": "big", "y": "big"},
    bitwise.bit_not: {"machine": "machine", "x": "big"},
    bitwise.complement: {"machine": "machine", "digits": "row"},
    powers.power: {"machine": "machine", "x": "big", "y": "exponent", "modulus": "modulus"},
    powers.power_steps: {"machine": "machine", "y": "exponent"},
    powers.inverse: {"machine": "machine", "x": "invertible", "y": "odd modulus"},
    powers.window_rows: {"y": "row number", "width": "width"},
    powers.best_width: {"y": "row number"},
    gcds.gcd: {"machine": "machine", "x": "big", "y": "big"},
    gcds.lehmer_step: {"machine": "machine", "x": "greater", "y": "lesser"},
    gcds.lcm: {"machine": "machine", "x": "big", "y": "big"},
    gcds.gcd_many: {"machine": "machine", "values": "bigs"},
    gcds.lcm_many: {"machine": "machine", "values": "bigs"},
    roots.isqrt: {"machine": "machine", "x": "from 0 on"},
    roots.root_estimates: {"x": "any big from 0 on"},
    roots.first_root: {"n": "word"},
    roots.root_table: {},
    texts.to_text: {"machine": "machine", "x": "big", "base": "written base", "most": "most"},
    texts.read_text: {"machine": "machine", "text": "text", "base": "base", "most": "most"},
    texts.group_of: {"machine": "machine", "base": "group base"},
    byterows.byte_length: {"x": "any big from 0 on", "signed": "flag"},
    byterows.to_bytes: {"machine": "machine", "x": "few bits", "length": "length", "order": "order", "signed": "flag"},
    byterows.from_bytes: {"machine": "machine", "row": "bytes", "order": "order", "signed": "flag"},
    halves.true_quotient: {"machine": "machine", "x": "big", "y": "divisor"},
    halves.nearest: {"machine": "machine", "x": "big"},
    halves.divide_near: {"machine": "machine", "x": "big", "y": "divisor"},
    halves.round_tens: {"machine": "machine", "x": "big", "places": "places"},
    trees.halves_divide: {"machine": "machine", "x": "big", "y": "divisor", "limit": "divide limit"},
    trees.halves_read: {"machine": "machine", "text": "decimals", "limit": "read limit"},
    trees.factorial: {"machine": "machine", "n": "factor"},
    trees.comb: {"machine": "machine", "n": "things", "k": "chosen"},
    trees.perm: {"machine": "machine", "n": "things", "k": "chosen"},
}
BEHIND_A_STAR = ("modulus", "most", "signed", "limit")
# The functions that have arguments with a default value; all others have none.
SIGNATURES = {
    powers.power: "(machine, x, y, *, modulus=None)",
    texts.to_text: "(machine, x, base=10, *, most=4300)",
    texts.read_text: "(machine, text, base=10, *, most=4300)",
    byterows.byte_length: "(x, *, signed=False)",
    byterows.to_bytes: "(machine, x, length=1, order='big', *, signed=False)",
    byterows.from_bytes: "(machine, row, order='big', *, signed=False)",
    trees.halves_divide: "(machine, x, y, *, limit=4000)",
    trees.halves_read: "(machine, text, *, limit=2048)",
    desks.replay: "(deeds, *, bits=30, cutoff=70)",
    Machine: "(bits=30, cutoff=70)",
    desks.Desk: "(bits=30, cutoff=70)",
    desks.Desk.put: "(self, name, n)",
    desks.Desk.number: "(self, name)",
    desks.Desk.do: "(self, name, call)",
    desks.Desk.dearest: "(self, word)",
    wholes.is_integer: "(value)",
}
MODULES = {
    "thirtybits.bigs": bigs,
    "thirtybits.sums": sums,
    "thirtybits.products": products,
    "thirtybits.karatsuba": karatsuba,
    "thirtybits.division": division,
    "thirtybits.shifts": shifts,
    "thirtybits.bitwise": bitwise,
    "thirtybits.powers": powers,
    "thirtybits.gcds": gcds,
    "thirtybits.roots": roots,
    "thirtybits.texts": texts,
    "thirtybits.byterows": byterows,
    "thirtybits.halves": halves,
    "thirtybits.trees": trees,
}
# The integers of right Bigs, for each kind that is a Big.
NUMBERS = {
    "any big": (0, -5, 70000, -256 ** 6),
    "big": (0, -5, 70000, -256 ** 6),
    "divisor": (-5, 70000, -256 ** 3),
    "long": (256 ** 3, -256 ** 6),
    "long divisor": (-70000, 256 ** 2),
    "exponent": (0, 3, 70),
    "invertible": (1, -5, 2 ** 40),
    "odd modulus": (7, 3 ** 20),
    "greater": (256 ** 3, 256 ** 7 + 5),
    "lesser": (0, 70000, 256 ** 3),
    "from 0 on": (0, 5, 70000, 2 ** 90),
    "any big from 0 on": (0, 5, 70000, 2 ** 90),
    "few bits": (0, 5, 100),
}
# The right values of the other kinds, but machines.
VALUES = {
    "integer": kinds.integers(),
    "sign": [1, -1],
    "row": [[0, 255, 7], [1, 2, 3, 0]],
    "more": [[], [255], [1, 2, 0]],
    "count": [0, 7, 8, 100],
    "small count": [0, 1, 7],
    "row number": [1, 1000, 2 ** 4000 - 1],
    "width": [1, 12, 5],
    "word": [2 ** 62, 2 ** 64 - 1],
    "written base": [2, 8, 16, 10],
    "base": [0, 2, 36, 10],
    "group base": [3, 36, 10],
    "most": [0, 640, 10 ** 100],
    "text": ["1", "\t+0 ", " -1_0"],
    "decimals": ["0", "002000"],
    "flag": [False, True],
    "length": [1, 10000, 5],
    "order": ["little", "big"],
    "bytes": [[], [0], [255, 0, 7]],
    "places": [0, 1, 5],
    "divide limit": [1, 4000, 3],
    "read limit": [1, 2048, 2],
    "factor": [0, 20, 30],
    "things": [500, 2 ** 63 - 1, 70],
    "chosen": [0, 1, 30],
}
# Integers that are wrong for the kinds that are integers.
WRONG_INTEGERS = {
    "integer": [],
    "sign": [2, -2, 255, 2 ** 70, -2 ** 70],
    "count": [-1, -2 ** 70],
    "small count": [-1, -2 ** 70, 8, 9, 30, 2 ** 70],
    "row number": [0, -1, 2 ** 4000, -2 ** 4000],
    "width": [0, 13, -1, 2 ** 70],
    "word": [0, 2 ** 62 - 1, 2 ** 64, -2 ** 63],
    "written base": [0, 1, 3, 4, 32, 36, -10, 2 ** 70],
    "base": [1, 37, -1, -2, 2 ** 70],
    "group base": [0, 1, 2, 4, 8, 16, 32, 37, -3, 2 ** 70],
    "most": [1, 639, -1, -640, -2 ** 70],
    "length": [-1, 10001, 2 ** 70],
    "places": [-1, 1001, 2 ** 70],
    "divide limit": [0, 4001, -1, 2 ** 70],
    "read limit": [0, 2049, -1, 2 ** 70],
    "factor": [-1, -2 ** 70],
    "things": [-1, 2 ** 63, 2 ** 70],
    "chosen": [-1, -2 ** 70],
}


def used_machine():
    """A machine of 8 bits with a tally and a walk of its own."""
    machine = Machine(8, 4)
    sums.add(machine, big(machine, 70000), big(machine, -70001))
    karatsuba.multiply(machine, big(machine, 3), big(machine, 4))
    return machine


def state(machine):
    return machine.parts(), machine.tally(), machine.walk()


def right_values(machine, kind):
    """Some values that an argument of a kind may have."""
    if kind == "machine":
        return [machine]
    if kind == "modulus":
        return [None, big(machine, 7), big(machine, -70000)]
    if kind == "bigs":
        return [[], [big(machine, -5)], [big(machine, 12), big(machine, -70000)]]
    if kind in NUMBERS:
        return [big(machine, n) for n in NUMBERS[kind]]
    return [list(value) if isinstance(value, list) else value for value in VALUES[kind]]


def wrong_values(kind):
    """Values of every built-in kind but floats, and of the classes of the interface, that are not of a kind."""
    others = kinds.no_integers() + kinds.lists() + [desks.Desk()]
    if kind in WRONG_INTEGERS:
        return others + kinds.bigs() + kinds.machines() + [[], [1]] + WRONG_INTEGERS[kind]
    others += kinds.integers()
    if kind == "machine":
        return others + kinds.bigs() + [[], [8, 4]]
    if kind in ("row", "more"):
        wrong = others + kinds.bigs() + kinds.machines() + [[256], [0, -1], [0, 0, 256]]
        return wrong + [[0] * 5] if kind == "more" else wrong
    others += kinds.machines()
    if kind == "bytes":
        return others + kinds.bigs() + [[256], [0, -1], [0, 0, 256], [0] * 10001]
    if kind in ("text", "decimals"):
        return [value for value in others + kinds.bigs() + [[], ["1"]] if not isinstance(value, str)]
    if kind == "flag":
        return [value for value in others + kinds.bigs() + [[], [True]] if not isinstance(value, bool)]
    if kind == "order":
        return others + kinds.bigs() + [[], ["big"], "Big", "little ", b"big"]
    return others + [[1]] + ([] if kind == "bigs" else [[]]) + wrong_bigs(kind)


def wrong_bigs(kind):
    """What is wrong, besides values of other classes, where Bigs of 8 bits are asked for, or a list of such."""
    if kind == "bigs":
        return kinds.bigs() + [big(Machine(8), 5), (big(Machine(8), 5),), [big(Machine(8), 5), 5],
                               [big(Machine(8), 5), big(Machine(9), 5)]]
    if kind == "long divisor":
        return kinds.bigs() + [big(Machine(8), n) for n in (0, 1, -255)]
    return [] if kind in ("any big", "any big from 0 on") else kinds.bigs()


def right_call(machine, asked):
    return {name: right_values(machine, kind)[-1] for name, kind in asked.items()}


class Names(unittest.TestCase):
    def test_every_function_is_where_it_is_listed(self):
        for function in FUNCTIONS:
            self.assertIs(getattr(MODULES[function.__module__], function.__name__), function)
        self.assertEqual(wholes.is_integer.__module__, "thirtybits.wholes")

    def test_names_and_defaults(self):
        for function, asked in FUNCTIONS.items():
            self.assertEqual(list(inspect.signature(function).parameters), list(asked))
            if function not in SIGNATURES:
                self.assertEqual(str(inspect.signature(function)), f"({', '.join(asked)})")
        for function, told in SIGNATURES.items():
            self.assertEqual(str(inspect.signature(function)), told)

    def test_default_values(self):
        for function, asked in FUNCTIONS.items():
            for parameter in inspect.signature(function).parameters.values():
                if parameter.default is parameter.empty:
                    continue
                found = []
                for leave_out in (False, True):
                    machine = Machine(8, 4)
                    call = {**right_call(machine, asked), parameter.name: parameter.default}
                    if leave_out:
                        del call[parameter.name]
                    found.append((function(**call), state(machine)))
                self.assertEqual(found[0], found[1], (function, parameter))

    def test_by_position_and_by_name(self):
        for function, asked in FUNCTIONS.items():
            places = [range(len(right_values(Machine(8, 4),
                                             kind)))[-1 if kind in NUMBERS else 0:] for kind in asked.values()]
            for chosen in itertools.product(*places):
                found = []
                for way in ("position", "name", "turned", "mixed"):
                    machine = Machine(8, 4)
                    values = [right_values(machine, kind)[place] for kind, place in zip(asked.values(), chosen)]
                    result = self.call(function, list(asked), values, way)
                    found.append((result, state(machine)))
                self.assertEqual(found, found[:1] * 4, function)

    def call(self, function, names, values, way):
        """Call a function by position, by name, by name with the last argument first, or by both."""
        pairs = list(zip(names, values))
        if way in ("name", "turned"):
            return function(**dict(pairs[::-1] if way == "turned" else pairs))
        by_name = dict(pair for pair in pairs if pair[0] in BEHIND_A_STAR or (way == "mixed" and pair[0] != names[0]))
        return function(*[value for name, value in pairs if name not in by_name], **by_name)


class Staying(unittest.TestCase):
    def test_same_call_same_result_and_same_counts(self):
        for function, asked in FUNCTIONS.items():
            found = []
            for step in range(2):
                machine = Machine(8, 4)
                call = right_call(machine, asked)
                first = function(**call)
                counts = [number for word, number in machine.tally()]
                walk = machine.walk()
                self.assertEqual(function(**call), first)
                self.assertEqual([number for word, number in machine.tally()], [2 * number for number in counts])
                self.assertEqual(machine.walk(), walk * 2)
                found.append((first, counts, walk))
            self.assertEqual(found[0], found[1])

    def test_arguments_and_earlier_results_stay(self):
        for function, asked in FUNCTIONS.items():
            machine = Machine(8, 4)
            for values in itertools.product(*[right_values(machine, kind) for kind in asked.values()]):
                before = [self.told(value) for value in values]
                call = dict(zip(asked, values))
                result = function(**call)
                self.assertEqual([self.told(value) for value in values], before)
                told = self.told(result)
                self.spoil(result)
                self.assertEqual(self.told(function(**call)), told)

    def told(self, value):
        """What can be seen of a value, except for a machine's counts."""
        if isinstance(value, Machine):
            return value.parts()
        if isinstance(value, bigs.Big):
            return value.sign(), value.digits(), value.bits()
        return [self.told(item) for item in value] if isinstance(value, (list, tuple)) else value

    def spoil(self, result):
        """Change each list that a function gave."""
        if isinstance(result, bigs.Big):
            result.digits().append(1)
        if isinstance(result, list):
            result.append(1)
        if isinstance(result, tuple):
            for part in result:
                self.spoil(part)


class Wrong(unittest.TestCase):
    def refuse(self, function, call, argument, machine, told):
        """Check that a call raises for this argument and leaves a machine as it was."""
        before = state(machine)
        try:
            function(**call)
        except InvalidBound as error:
            self.assertEqual(error.argument, argument, told)
        except InvalidText as error:
            self.assertEqual((argument, error.place), ("text", -1), told)
        else:
            self.fail(told)
        self.assertEqual(state(machine), before, told)

    def test_each_argument(self):
        machine = used_machine()
        for function, asked in FUNCTIONS.items():
            for name, kind in asked.items():
                for place, value in enumerate(wrong_values(kind)):
                    if kind == "modulus" and value is None:
                        continue
                    call = right_call(machine, asked)
                    call[name] = value
                    # The value itself may be nested too deep to be told.
                    self.refuse(function, call, name, machine, (function.__name__, name, place))

    def test_the_first_of_several_is_told(self):
        machine = used_machine()
        for function, asked in FUNCTIONS.items():
            for size in range(2, len(asked) + 1):
                for names in itertools.combinations(asked, size):
                    for wrong in wrong_values(asked[names[0]])[1::9] + [(), {}, object()]:
                        for other in (None, True, "x", [[]], machine, big(Machine(9), 1)):
                            call = right_call(machine, asked)
                            call.update(dict.fromkeys(names, other))
                            call[names[0]] = wrong
                            self.refuse(function, call, names[0], machine, (function.__name__, names))

    def test_bigs_of_other_bits(self):
        for function, asked in FUNCTIONS.items():
            if "machine" not in asked or "x" not in asked:
                continue
            for bits in (8, 9, 30):
                machine = Machine(bits, 4)
                for other in (8, 9, 29, 30):
                    for n in (0, 1, 2 ** 80):
                        call = right_call(machine, asked)
                        call.update({name: big(Machine(other), n) for name in ("x", "y") if name in asked})
                        if other == bits:
                            self.call_unless_limited(function, call, n)
                            continue
                        self.refuse(function, call, "x", machine, (function.__name__, bits, other))
                        if "y" in asked:
                            call["x"] = big(machine, n)
                            self.refuse(function, call, "y", machine, (function.__name__, bits, other))

    def call_unless_limited(self, function, call, n):
        """Call a function with the numbers n, unless it is one that does not take all of them."""
        if {"big", "divisor"} >= {FUNCTIONS[function][name] for name in ("x", "y") if name in call}:
            if n > 0 or FUNCTIONS[function].get("y") != "divisor":
                function(**call)

    def test_a_modulus_of_other_bits(self):
        machine = Machine(8, 4)
        x, zero = big(machine, 5), big(machine, 0)
        for other in (9, 30):
            for n in (0, 1, 7):
                call = {"machine": machine, "x": x, "y": zero, "modulus": big(Machine(other), n)}
                self.refuse(powers.power, call, "modulus", machine, other)

    def test_bigs_of_another_machine_with_the_same_bits(self):
        machine = Machine(8, 4)
        x = big(Machine(8, 900), 70000)
        self.assertEqual(sums.add(machine, x, x), big(machine, 140000))
        self.assertEqual(machine.walk(), [("add", 3, 3)])

    def test_digits_for_the_bits_of_the_machine(self):
        for bits in (8, 9, 30):
            machine = Machine(bits)
            top = (1 << bits) - 1
            for function in (sums.added_into, sums.taken_from):
                function(machine, [top, 0], [0, top])
                self.refuse(function, {"machine": machine, "room": [top + 1, 0], "more": [0]}, "room", machine, bits)
                self.refuse(function, {"machine": machine, "room": [top, 0], "more": [top + 1]}, "more", machine, bits)
                self.refuse(function, {"machine": machine, "room": [top, 0], "more": [0] * 3}, "more", machine, bits)
                self.refuse(function, {"machine": machine, "room": [], "more": [0]}, "more", machine, bits)

    def test_counts_for_the_bits_of_the_machine(self):
        for bits in (8, 9, 30):
            machine = Machine(bits)
            for function in (shifts.shift_row_up, shifts.shift_row_down):
                function(machine, [1], bits - 1)
                for count in (bits, bits + 1, -1):
                    self.refuse(function, {"machine": machine, "digits": [1], "count": count}, "count", machine, count)

    def test_numbers_that_do_not_divide_long(self):
        machine = used_machine()
        for x, y, argument in (
            (70000, 0, "y"), (70000, 255, "y"), (70000, -1, "y"), (0, 0, "y"), (0, 70000, "x"), (5, 256, "x"),
            (256 ** 2 - 1, 256 ** 2, "x"), (-(256 ** 3) - 5, 2 * 256 ** 3, "x"), (511, 512, "x"),
        ):
            call = {"machine": machine, "x": big(machine, x), "y": big(machine, y)}
            self.refuse(division.long_walk, call, argument, machine, (x, y))

    def test_other_errors_come_behind_wrong_arguments(self):
        machine = used_machine()
        one, zero = big(machine, 1), big(machine, 0)
        for function in (division.truncated, division.divide_both, division.floor_divide, division.modulo):
            self.refuse(function, {"machine": machine, "x": big(Machine(), 1), "y": zero}, "x", machine, "x")
            self.refuse(function, {"machine": machine, "x": one, "y": big(Machine(), 0)}, "y", machine, "y")
            self.refuse(function, {"machine": Machine, "x": one, "y": zero}, "machine", machine, "machine")
        for count in (100001, 2 ** 70):
            self.refuse(shifts.shift_left, {"machine": machine, "x": 1, "count": count}, "x", machine, "x")
            self.refuse(shifts.shift_left, {"machine": None, "x": one, "count": count}, "machine", machine, "machine")

    def test_zero_divisors(self):
        machine = used_machine()
        before = state(machine)
        for function in (division.truncated, division.divide_both, division.floor_divide, division.modulo):
            for x in (0, 1, -255, 256, -(256 ** 5)):
                with self.assertRaises(ZeroDivisor):
                    function(machine, big(machine, x), big(machine, 0))
                self.assertEqual(state(machine), before)

    def test_too_great_shifts(self):
        machine = used_machine()
        before = state(machine)
        for x in (1, -1, 256, -(256 ** 5)):
            for count in (100001, 2 ** 70):
                with self.assertRaises(TooGreat):
                    shifts.shift_left(machine, big(machine, x), count)
                self.assertEqual(state(machine), before)

    def test_a_wrong_argument_does_not_change_lists(self):
        machine = used_machine()
        room, more = [255, 255], [1, 2, True]
        self.refuse(sums.added_into, {"machine": machine, "room": room, "more": more}, "more", machine, "more")
        self.assertEqual((room, more), ([255, 255], [1, 2, True]))
