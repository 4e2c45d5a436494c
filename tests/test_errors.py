"""Points 1 to 4: the classes of errors, and what an integer is."""

import unittest

from tests.kinds import integers, lists, machines, nested, no_integers
from thirtybits import errors
from thirtybits.bigs import big
from thirtybits.machines import Machine
from thirtybits.wholes import is_integer

FIELDS = {
    "InvalidMachine": "part",
    "InvalidBound": "argument",
    "InvalidText": "place",
    "InvalidCall": "call",
    "ZeroDivisor": None,
    "TooGreat": None,
    "LimitExceeded": "limit",
}


class Errors(unittest.TestCase):
    def test_classes(self):
        self.assertEqual(errors.BitsError.__bases__, (ArithmeticError,))
        self.assertEqual(errors.BitsError.__module__, "thirtybits.errors")
        for name in FIELDS:
            kind = getattr(errors, name)
            self.assertEqual(kind.__bases__, (errors.BitsError,), name)
            self.assertEqual(kind.__module__, "thirtybits.errors")

    def test_fields(self):
        for name, field in FIELDS.items():
            kind = getattr(errors, name)
            if field is None:
                self.assertEqual(vars(kind()), {})
                continue
            for value in ("bits", -1, 640, ("square", "x"), ["unhashable"], None):
                self.assertEqual(vars(kind(value)), {field: value})
                self.assertEqual(vars(kind(**{field: value})), {field: value})
            with self.assertRaises(TypeError):
                kind()

    def test_they_can_be_raised_and_told(self):
        for name, field in FIELDS.items():
            kind = getattr(errors, name)
            error = kind() if field is None else kind(7)
            with self.assertRaises(errors.BitsError) as caught:
                raise error
            self.assertIs(caught.exception, error)
            self.assertIsInstance(str(error), str)

    def test_fields_that_cannot_be_written(self):
        deep = nested(lambda value: (value,))
        for name, field in FIELDS.items():
            for value in (deep, [deep], 10 ** 5000, -(10 ** 5000), "x" * 100):
                if field is not None:
                    error = getattr(errors, name)(value)
                    self.assertTrue(getattr(error, field) is value)
                    self.assertIsInstance(str(error) + repr(error), str)

    def test_messages_tell_the_field(self):
        for error, told in ((errors.InvalidMachine("bits"), "bits"), (errors.InvalidBound("x"), "x"),
                            (errors.InvalidText(-1), "-1"),
                            (errors.InvalidText(25), "25"), (errors.LimitExceeded(640), "640")):
            self.assertTrue(str(error).endswith(told))


class Wholes(unittest.TestCase):
    def test_integers(self):
        for value in integers() + [10 ** 4000]:
            self.assertIs(is_integer(value), True)
            self.assertIs(is_integer(value=value), True)

    def test_others(self):
        others = no_integers() + lists() + machines() + [big(Machine(), 5), [], [1], [0]]
        for place, value in enumerate(others):
            self.assertTrue(is_integer(value) is False, place)
