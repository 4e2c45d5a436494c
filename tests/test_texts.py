"""Points 42 to 46: texts."""

import itertools
import random
import re
import sys

from tests.later_model import LaterModel
from tests.samples import MACHINES, ModelCase, both_signs, counted, edges
from thirtybits.bigs import big, plain
from thirtybits.errors import InvalidBound, InvalidText, LimitExceeded
from thirtybits.machines import Machine
from thirtybits.texts import group_of, read_text, to_text

BASES = [0] + list(range(2, 37))
POWERS_OF_TWO = (2, 4, 8, 16, 32)
SIGNS = "0123456789abcdefghijklmnopqrstuvwxyz"


def in_base(n, base):
    """The text of a number in a base, digit by digit."""
    text = ""
    while n:
        n, digit = divmod(n, base)
        text = SIGNS[digit] + text
    return text or "0"


def pattern(base):
    """What a text for a base looks like, as a regular expression; it is written from point 44 alone."""
    def row(of):
        signs = SIGNS[:of] + SIGNS[10:of].upper()
        return f"[{signs}](_?[{signs}])*"

    prefixed = {16: f"0[xX]_?{row(16)}", 8: f"0[oO]_?{row(8)}", 2: f"0[bB]_?{row(2)}"}
    if base == 0:
        choices = list(prefixed.values()) + ["[1-9](_?[0-9])*", "0(_?0)*"]
    else:
        choices = [row(base)] + ([prefixed[base]] if base in prefixed else [])
    return re.compile(f"[ \t\n]*[+-]?({'|'.join(choices)})[ \t\n]*")


PATTERNS = {base: pattern(base) for base in BASES}


def wrong_place(text, base):
    """The place from which a text is wrong, or None: a beginning goes on if it is a text, or one with a 0 behind it."""
    def is_text(part):
        return PATTERNS[base].fullmatch(part) is not None

    for place in range(len(text)):
        part = text[:place + 1]
        if not is_text(part) and not is_text(part + "0"):
            return place
    return None if is_text(text) else len(text)


class TextCase(ModelCase):
    def place(self, text, base=10, machine=None):
        """The place for which a text is refused, or None."""
        machine = machine or Machine(8, 4)
        try:
            read_text(machine, text, base, most=0)
        except InvalidText as error:
            self.assertEqual((counted(machine), machine.walk()), ({}, []))
            return error.place
        return None


class Writing(TextCase):
    def check(self, machine, n):
        for base, letter in ((2, "b"), (8, "o"), (10, "d"), (16, "x")):
            self.check_call(machine, to_text, n, base)
            self.assertEqual(to_text(machine, big(machine, n), base), format(n, letter))

    def test_edges(self):
        for parts in MACHINES:
            machine = Machine(*parts)
            for n in both_signs(edges(parts[0])):
                self.check(machine, n)

    def test_powers_of_ten(self):
        for bits in (8, 9, 10, 13, 14, 20, 29, 30):
            machine = Machine(bits)
            for k in range(1, 40):
                for n in (10 ** k - 1, 10 ** k, 10 ** k + 1, -(5 * 10 ** k)):
                    self.check(machine, n)

    def test_many_numbers(self):
        chance = random.Random(139)
        for bits in range(8, 31):
            machine = Machine(bits)
            for step in range(12):
                self.check(machine, chance.getrandbits(chance.randrange(500)) * chance.choice((1, -1)))

    def test_counts(self):
        # Behind the digit 7 there is one item, behind 208 there are two: 7 * 256 + 208 is 20 * 100 + 0.
        self.assertEqual(self.told(to_text, -2000), ("-2000", [("write", 2, 10)], {"quotient": 3}))
        self.assertEqual(self.told(to_text, 0), ("0", [("write", 0, 10)], {}))
        self.assertEqual(self.told(to_text, 99), ("99", [("write", 1, 10)], {"quotient": 1}))
        self.assertEqual(self.told(to_text, 100), ("100", [("write", 1, 10)], {"quotient": 2}))
        self.assertEqual(self.told(to_text, 9999), ("9999", [("write", 2, 10)], {"quotient": 1 + 2}))
        self.assertEqual(self.told(to_text, 10000), ("10000", [("write", 2, 10)], {"quotient": 1 + 3}))
        self.assertEqual(self.told(to_text, 70000), ("70000", [("write", 3, 10)], {"quotient": 1 + 2 + 3}))
        for base, text in ((2, "11111111"), (8, "377"), (16, "ff")):
            self.assertEqual(self.told(to_text, 255, base), (text, [("write", 1, base)], {"shifted": len(text)}))
            self.assertEqual(self.told(to_text, -255, base), ("-" + text, [("write", 1, base)], {"shifted": len(text)}))
            self.assertEqual(self.told(to_text, 0, base), ("0", [("write", 0, base)], {}))

    def test_most(self):
        machine = Machine()
        for digits, most in ((640, 640), (639, 640), (641, 641), (4300, 4300), (700, 10 ** 100), (5000, 0),
                             (4301, 4301)):
            for n in (10 ** digits - 1, -(10 ** (digits - 1))):
                text = to_text(machine, big(machine, n), most=most)
                self.assertEqual(len(text.lstrip("-")), digits)
        for digits, most in ((641, 640), (642, 641), (4301, 4300), (5000, 4999), (20000, 640)):
            for n in (10 ** (digits - 1), -(10 ** digits - 1)):
                error = self.refused(LimitExceeded, machine, to_text, machine, big(machine, n), most=most)
                self.assertEqual(error.limit, most)
        error = self.refused(LimitExceeded, machine, to_text, machine, big(machine, 10 ** 4300))
        self.assertEqual(error.limit, 4300)
        self.assertEqual(len(to_text(machine, big(machine, 10 ** 4300 - 1))), 4300)

    def test_most_is_for_the_base_10_alone(self):
        machine = Machine()
        for base, letter in ((2, "b"), (8, "o"), (16, "x")):
            n = -(10 ** 2000)
            self.assertEqual(to_text(machine, big(machine, n), base, most=640), format(n, letter))

    def test_long_numbers(self):
        for bits in (8, 30):
            machine = Machine(bits)
            for n in (10 ** 39999 + 12345, 7 ** 40000, 10 ** 5000, -(2 ** 64000) + 1):
                text = to_text(machine, big(machine, n), most=0)
                before = sys.get_int_max_str_digits()
                sys.set_int_max_str_digits(0)
                try:
                    self.assertTrue(text == str(n))
                finally:
                    sys.set_int_max_str_digits(before)
        model = LaterModel(30, 70)
        machine.reset()
        to_text(machine, big(machine, 7 ** 4000), most=0)
        model.to_text(7 ** 4000)
        self.assertEqual((machine.tally(), machine.walk()), (model.tally(), model.walk()))

    def test_errors(self):
        machine = Machine(8)
        x = big(machine, 10 ** 700)
        for base in (0, 1, -10, 3, 4, 9, 11, 32, 36, 64, 2 ** 70, True, False, None, "10", [10], x):
            self.assertEqual(self.refused(InvalidBound, machine, to_text, machine, x, base, most=5).argument, "base")
        for most in (1, 5, 639, -1, -640, True, False, None, "640", [640], (0,), x):
            for base in (2, 8, 10, 16):
                self.assertEqual(self.refused(InvalidBound, machine, to_text, machine, x, base, most=most).argument,
                                 "most")
        with self.assertRaises(TypeError):
            to_text(machine, x, 10, 640)


class Groups(TextCase):
    def test_every_base(self):
        for bits in range(8, 31):
            machine = Machine(bits)
            for base in range(3, 37):
                if base in POWERS_OF_TWO:
                    continue
                w, scale = group_of(machine, base)
                self.assertEqual(scale, base ** w)
                self.assertTrue(scale <= 2 ** bits < scale * base)
            self.assertEqual((counted(machine), machine.walk()), ({}, []))
        self.assertEqual(group_of(Machine(), 10), (9, 1000000000))
        self.assertEqual(group_of(Machine(8, 4), 10), (2, 100))
        self.assertEqual(group_of(Machine(8, 4), 36), (1, 36))
        self.assertIs(type(group_of(Machine(), 10)), tuple)

    def test_errors(self):
        machine = Machine(8)
        for base in (0, 1, 2, 4, 8, 16, 32, 37, 64, -3, 2 ** 70, True, None, "10", [10], (3,), big(machine, 10)):
            self.assertEqual(self.refused(InvalidBound, machine, group_of, machine, base).argument, "base")


class Reading(TextCase):
    def test_examples(self):
        self.assertEqual(self.told(read_text, " -0x_7d0 ", 16), (-2000, [("read", 3, 16)], {"shifted": 2}))
        # The groups are 20 and 00: at the first one, the row has no digit.
        self.assertEqual(self.told(read_text, "-2_000"), (-2000, [("read", 4, 10)], {"product": 1}))
        self.assertEqual(self.place("1__0"), 2)
        self.assertEqual(self.place("012", 0), 1)

    def test_counts(self):
        for text, base, whole, digits, base_told, counts in (
            ("0", 10, 0, 1, 10, {}), ("000", 10, 0, 3, 10, {}), ("0000007", 10, 7, 7, 10, {}),
            ("70000", 10, 70000, 5, 10, {"product": 3}),
            ("123", 10, 123, 3, 10, {"product": 1}), ("0x10", 0, 16, 2, 16, {"shifted": 1}),
            ("0b1", 0, 1, 1, 2, {"shifted": 1}),
            ("0o777", 0, 511, 3, 8, {"shifted": 2}), ("10", 0, 10, 2, 10, {}), ("000", 0, 0, 3, 10, {}),
            ("zz", 36, 1295, 2, 36, {"product": 1}),
            ("000000001", 2, 1, 9, 2, {"shifted": 2}), ("00000001", 2, 1, 8, 2, {"shifted": 1}),
            ("123", 4, 27, 3, 4, {"shifted": 1}),
            ("0v", 32, 31, 2, 32, {"shifted": 2}), ("ff", 16, 255, 2, 16, {"shifted": 1}),
            ("fff", 16, 4095, 3, 16, {"shifted": 2}),
        ):
            self.assertEqual(self.told(read_text, text, base), (whole, [("read", digits, base_told)], counts),
                             (text, base))
            self.assertEqual(self.told(read_text, "\t-" + text + "\n ", base)[0], -whole)
            self.assertEqual(self.told(read_text, " +" + text, base)[0], whole)

    def test_every_base(self):
        chance = random.Random(149)
        for bits in (8, 9, 15, 24, 30):
            machine = Machine(bits)
            for base in range(2, 37):
                for size in (1, 2, 3, 7, 20, 61):
                    text = "".join(chance.choice(SIGNS[:base]) for k in range(size))
                    self.check_call(machine, read_text, text, base)
                    self.check_call(machine, read_text, "-" + text.upper(), base)
                    self.check_call(machine, read_text, "0" * 9 + text, base)
                    self.assertEqual(plain(read_text(machine, text, base)), int(text, base))

    def test_what_was_written_is_read(self):
        chance = random.Random(151)
        for parts in MACHINES:
            machine = Machine(*parts)
            for n in both_signs(edges(parts[0])[::4] + [chance.getrandbits(300)]):
                x = big(machine, n)
                for base in (2, 8, 10, 16):
                    self.assertEqual(read_text(machine, to_text(machine, x, base), base), x)
                for base in range(2, 37):
                    text = ("-" if n < 0 else "") + in_base(abs(n), base)
                    self.assertEqual(read_text(machine, text, base), x)

    def test_prefixes(self):
        for text, base, whole in (
            ("0xff", 16, 255), ("0XfF", 16, 255), ("0x_f", 16, 15), ("0o17", 8, 15), ("0O17", 8, 15), ("0b11", 2, 3),
            ("0B_11", 2, 3),
            ("0b1", 16, 0xb1), ("0xff", 0, 255), ("0b11", 0, 3), ("0o_17", 0, 15), ("-0B1", 0, -1), ("0b", 16, 11),
            ("0x1", 36, 33 * 36 + 1),
            ("0o1", 36, 24 * 36 + 1), ("0b1", 12, 11 * 12 + 1), ("0_0", 0, 0), ("00", 0, 0), ("1_0", 0, 10),
            ("0x0_1", 0, 1), ("0b0", 2, 0),
        ):
            self.assertEqual(self.told(read_text, text, base)[0], whole, (text, base))

    def test_most(self):
        machine = Machine()
        for text, base, most in (("1" * 640, 10, 640), ("0" * 640, 3, 640), ("7" * 4300, 10, 4300), ("7" * 5000, 10, 0),
                                 ("1_" * 640 + "1", 36, 641),
                                 ("1" * 5000, 2, 640), ("1" * 5000, 32, 640), ("0x" + "1" * 5000, 0, 640),
                                 ("0b" + "1" * 641, 0, 640),
                                 (" -" + "1" * 640 + "  ", 10, 640), ("0" * 640, 0, 640), ("1" * 1000, 10, 10 ** 5000)):
            digits = text.replace("_", "").strip(" -").removeprefix("0x").removeprefix("0b")
            real = 16 if text.startswith("0x") else 2 if text.startswith("0b") else base or 10
            self.check_call(machine, read_text, text, base, most=most)
            self.assertEqual(machine.walk(), [("read", len(digits), real)])
        for text, base, most in (("1" * 641, 10, 640), ("0" * 641, 3, 640), ("7" * 4301, 10, 4300),
                                 ("1" * 641, 36, 640), ("1" * 5000, 0, 4999),
                                 ("0" * 641, 0, 640), ("-" + "1_" * 640 + "1", 10, 640)):
            error = self.refused(LimitExceeded, machine, read_text, machine, text, base, most=most)
            self.assertEqual(error.limit, most)
        self.assertEqual(self.refused(LimitExceeded, machine, read_text, machine, "1" * 4301).limit, 4300)

    def test_order_of_the_checks(self):
        machine = Machine(8)
        long = "1" * 5000
        for text in (None, 5, True, b"1", ["1"], ("1",), {}, machine, big(machine, 1)):
            self.assertEqual(self.refused(InvalidText, machine, read_text, machine, text, 99, most=5).place, -1)
            self.assertEqual(self.refused(InvalidBound, machine, read_text, None, text, 99, most=5).argument, "machine")
        for base in (1, 37, -1, -2, 2 ** 70, True, False, None, "10", [10], (0,), machine):
            self.assertEqual(self.refused(InvalidBound, machine, read_text, machine, "?", base, most=5).argument,
                             "base")
        for most in (1, 5, 639, -1, True, False, None, "640", [640], machine):
            for base in (0, 2, 10):
                self.assertEqual(self.refused(InvalidBound, machine, read_text, machine, "?", base, most=most).argument,
                                 "most")
        self.assertEqual(self.refused(InvalidText, machine, read_text, machine, long + "?").place, 5000)
        self.assertEqual(self.refused(LimitExceeded, machine, read_text, machine, long).limit, 4300)
        with self.assertRaises(TypeError):
            read_text(machine, "1", 10, 640)

    def test_long_texts(self):
        chance = random.Random(157)
        for bits in (8, 30):
            machine = Machine(bits)
            text = "".join(chance.choice(SIGNS[:10]) for k in range(40000))
            number = 0
            for first in range(0, 40000, 4000):
                number = number * 10 ** 4000 + int(text[first:first + 4000])
            self.assertTrue(plain(read_text(machine, text, most=0)) == number)
            self.check_call(machine, read_text, text[:3000])


class WrongTexts(TextCase):
    def test_places(self):
        for text, base, place in (
            ("", 10, 0), (" ", 10, 1), (" \t\n", 10, 3), ("+", 10, 1), ("-", 10, 1), ("  -", 10, 3), ("+-1", 10, 1),
            ("--1", 10, 1), ("- 1", 10, 1),
            ("1-", 10, 1), ("1+1", 10, 1), ("1 1", 10, 2), ("1 -", 10, 2), ("1  _", 10, 3), ("_1", 10, 0),
            ("-_1", 10, 1), ("1_", 10, 2),
            ("1_ ", 10, 2), ("1__0", 10, 2), ("1_+", 10, 2), ("1.5", 10, 1), ("1e5", 10, 1), ("0x1", 10, 1),
            ("0b1", 10, 1), ("12a", 10, 2),
            ("12", 2, 1), ("2", 2, 0), ("0b2", 2, 2), ("0b", 2, 2), ("0b_", 2, 3), ("0b__1", 2, 3), ("0b1_", 2, 4),
            ("0x1", 2, 1), ("0o1", 2, 1),
            ("0x", 16, 2), ("0x_", 16, 3), ("0xg", 16, 2), ("0x-1", 16, 2), ("0x 1", 16, 2), ("0x0x1", 16, 3),
            ("g", 16, 0), ("0_x1", 16, 2),
            ("x1", 16, 0), ("_0x1", 16, 0), ("00x1", 16, 2), ("0o8", 8, 2), ("0o", 8, 2), ("8", 8, 0), ("0x1", 8, 1),
            ("z", 35, 0), ("Z", 36, None),
            ("012", 0, 1), ("0_1", 0, 2), ("00001", 0, 4), ("0_", 0, 2), ("0 1", 0, 2), ("-01", 0, 2), ("0x", 0, 2),
            ("0xg", 0, 2), ("0b2", 0, 2),
            ("0o8", 0, 2), ("00x1", 0, 2), ("1x1", 0, 1), ("0z1", 0, 1), ("0_b1", 0, 2), ("a", 0, 0), ("0x_", 0, 3),
            ("0X__1", 0, 3), ("0b12", 0, 3),
            ("?", 10, 0), ("1?", 10, 1), ("1 ?", 10, 2), ("\\", 10, 0), ("1@", 36, 1), ("1[", 36, 1), ("1`", 36, 1),
            ("1{", 36, 1), ("1/", 36, 1),
            ("1:", 36, 1),
        ):
            self.assertEqual(self.place(text, base), place, (text, base))
            self.assertEqual(wrong_place(text, base), place, (text, base))

    def test_short_texts_one_by_one(self):
        machine = Machine(8, 4)
        for base in (0, 2, 8, 10, 16):
            for size in range(6):
                for signs in itertools.product(" -01_x" if base in (0, 16) else "+0b_ 9" if base == 2 else "-0o_ 8",
                                               repeat=size):
                    text = "".join(signs)
                    self.assertEqual(self.found(machine, text, base), wrong_place(text, base), (text, base))

    def found(self, machine, text, base):
        try:
            read_text(machine, text, base)
        except InvalidText as error:
            return error.place

    def test_many_texts(self):
        chance = random.Random(163)
        machine = Machine(8, 4)
        for step in range(6000):
            base = chance.choice(BASES)
            signs = chance.choice((" +-01_x", "0123456789_", "01bBoOxX_ ", SIGNS[:base] + "_ ", "aAzZ09_ \t\n+-"))
            text = chance.choice(("", " ", "-", "0x", "0b", "0o",
                                  "0X_")) + "".join(chance.choice(signs) for k in range(chance.randrange(9)))
            place = wrong_place(text, base)
            self.assertEqual(self.found(machine, text, base), place, (text, base))
            if place is None:
                self.assertEqual(plain(read_text(machine, text, base)), int(text, base), (text, base))
            else:
                with self.assertRaises(ValueError):
                    int(text, base)

    def test_a_wrong_sign_at_every_place(self):
        for text, base in (("  -12_345  ", 10), ("+0x_7d_0 ", 16), ("0b1_01", 0), ("00_00", 0), ("zz_Zz", 36)):
            self.assertEqual(self.place(text, base), None)
            for place in range(len(text) + 1):
                for sign in "?*.":
                    self.assertEqual(self.place(text[:place] + sign + text[place:], base), place)
                    self.assertEqual(self.place(text[:place] + sign, base), place)
