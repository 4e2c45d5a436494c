"""Values of every built-in kind but floats, and of the classes of the interface."""

from thirtybits.bigs import big
from thirtybits.errors import BitsError, InvalidBound, InvalidCall, TooGreat
from thirtybits.machines import Machine


def nested(make, deep=2009):
    """A value in a value in a value; never to be written in a message."""
    value = make(0)
    for step in range(deep):
        value = make(value)
    return value


def raised():
    try:
        raise TooGreat()
    except TooGreat as error:
        return error


def counting():
    yield 1


def no_integers():
    """Values that are no integers (and no Bigs, machines or lists either)."""
    return [
        None, True, False, ..., NotImplemented, "", "1", "machine", b"", b"\x01", bytearray(b"\x01"),
        memoryview(b"\x01"), 1j, 0j, (), (1,), (1, 2), (8, 4), {}, {1: 2}, set(), {1}, frozenset(), frozenset({1}),
        range(0), range(3), slice(1), slice(0, 1, 2), object(), object, int, bool, list, type, Machine, BitsError,
        len, counting, lambda: 1, counting(), iter([1]), iter((1,)), iter(""), zip([1], [2]), map(int, "1"),
        filter(None, [1]), enumerate([1]), reversed([1]), {1: 2}.keys(), {1: 2}.values(), {1: 2}.items(),
        property(), staticmethod(len), classmethod(len), [].append, "".join, Exception(), ValueError("x"),
        raised(), InvalidBound("x"), InvalidCall(nested(lambda value: (value,))), raised().__traceback__,
        counting.__code__, super(Machine),
        nested(lambda value: (value,)), nested(lambda value: (1, value)), nested(lambda value: {0: value}),
    ]


def lists():
    """Lists that are no lists of digits, whatever the bits are."""
    return [
        [None], [True], [False], [1, True], [False, 0], [-1], [0, -1], [1 << 30], [0, 1 << 30, 0], [1 << 4000], ["1"],
        [b"1"], [()], [[]], [[1]], [(1,)], [{}], [object()], [1j], [Machine()], [big(Machine(), 1)], [1, None, 2],
        nested(lambda value: [value]), nested(lambda value: [1, value]), [nested(lambda value: (value,))],
    ]


def bigs():
    """Bigs of several bits, none of them 8."""
    return [big(Machine(bits), n) for bits in (9, 15, 30) for n in (0, 1, -70000)]


def machines():
    return [Machine(), Machine(8, 4), Machine(9, 2)]


def integers():
    return [0, 1, -1, 2, -2, 255, 256, 2 ** 70, -2 ** 70]
