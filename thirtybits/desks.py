"""Desks: numbers under names, and the deeds by which they came to be, which can be taken back and put again."""

from thirtybits.bigs import big_of
from thirtybits.bitwise import bit_and, bit_not, bit_or, bit_xor
from thirtybits.division import floor_divide, modulo
from thirtybits.errors import InvalidBound, InvalidCall, TooGreat
from thirtybits.gcds import gcd
from thirtybits.karatsuba import multiply, square
from thirtybits.machines import WORDS, Machine
from thirtybits.roots import isqrt
from thirtybits.shifts import shift_left, shift_right
from thirtybits.sums import add, subtract
from thirtybits.wholes import is_integer

LETTERS = "abcdefghijklmnopqrstuvwxyz"
LONGEST_NAME = 8
# The words of calls, by what stands behind them: two names, one, or a name and a count.
TWO_NAMES = ("add", "subtract", "multiply", "floor", "modulo", "gcd", "and", "or", "xor")
ONE_NAME = ("square", "not", "root")
NAME_AND_COUNT = ("left", "right")
# How many bits the numbers of a call may have together, with the count, for the words that make long numbers.
MOST_BITS = {"multiply": 100000, "square": 50000, "left": 100000}


class Desk:
    """Numbers under names, with a machine of its own."""

    def __init__(self, bits=30, cutoff=70):
        self.machine = Machine(bits, cutoff)
        self.held = {}
        # Each deed with the number that its name had before (None for none), the one behind it, and its cost.
        self.done = []
        self.undone = []

    def __eq__(self, other):
        return isinstance(other, Desk) and self.machine == other.machine and self.held == other.held

    def put(self, name, n):
        """Give a name the integer n."""
        check_name(name)
        if not is_integer(n):
            raise InvalidBound("n")
        self.keep(("put", name, n), n, [])

    def number(self, name):
        """The integer that a name has."""
        if not is_held(name, self.held):
            raise InvalidBound("name")
        return self.held[name]

    def names(self):
        """The names that have numbers, in ascending order."""
        return sorted(list(self.held))

    def tally(self):
        """How often each word was counted."""
        return self.machine.tally()

    def walk(self):
        """The first routines that were entered, with their sizes."""
        return self.machine.walk()

    def do(self, name, call):
        """Give a name the result of a call, and tell it."""
        check_name(name)
        if not is_call(call, self.held):
            raise InvalidCall(call)
        numbers = [self.held[part] for part in names_in(call)]
        check_size(call, numbers)
        before = self.machine.tally()
        found = result_of(self.machine, call, numbers)
        self.keep(("do", name, call), found, cost_between(before, self.machine.tally()))
        return found

    def deeds(self):
        """The deeds that are not taken back."""
        return [deed for deed, before, number, cost in self.done]

    def undo(self):
        """Take the last deed back; whether there was one."""
        if len(self.done) == 0:
            return False
        last = self.done.pop()
        self.undone.append(last)
        deed, before, number, cost = last
        if before is None:
            self.held.pop(deed[1])
        else:
            self.held[deed[1]] = before
        return True

    def redo(self):
        """Put the deed again that was taken back last; whether there was one."""
        if len(self.undone) == 0:
            return False
        last = self.undone.pop()
        self.done.append(last)
        deed, before, number, cost = last
        self.held[deed[1]] = number
        return True

    def costs(self):
        """For each deed what it has counted."""
        return [list(cost) for deed, before, number, cost in self.done]

    def dearest(self, word):
        """The index of the first deed that has counted a word most often, None if none has counted it."""
        if not isinstance(word, str) or word not in WORDS:
            raise InvalidBound("word")
        numbers = [dict(cost).get(word, 0) for cost in self.costs()]
        most = max(numbers, default=0)
        return numbers.index(most) if most > 0 else None

    def keep(self, deed, number, cost):
        """Note a deed that gives its name a number; those that were taken back are then lost."""
        self.done.append((deed, self.held.get(deed[1]), number, cost))
        self.undone = []
        self.held[deed[1]] = number


def replay(deeds, *, bits=30, cutoff=70):
    """A new desk on which the deeds are done."""
    if not isinstance(deeds, list) or not all([is_deed(deed) for deed in deeds]):
        raise InvalidBound("deeds")
    desk = Desk(bits, cutoff)
    for word, name, what in deeds:
        if word == "put":
            desk.put(name, what)
        else:
            desk.do(name, what)
    return desk


def is_deed(value):
    """Whether a value is a tuple of three items that begins as a deed does."""
    return isinstance(value, tuple) and len(value) == 3 and isinstance(value[0], str) and value[0] in ("put", "do")


def is_name(value):
    """Whether a value is a string of 1 to 8 lowercase letters."""
    if not isinstance(value, str) or not 1 <= len(value) <= LONGEST_NAME:
        return False
    return all([sign in LETTERS for sign in value])


def is_held(value, held):
    """Whether a value is a name that has a number."""
    return is_name(value) and value in held


def check_name(name):
    """Raise InvalidBound for what is no name."""
    if not is_name(name):
        raise InvalidBound("name")


def is_call(call, held):
    """Whether a value is a tuple of a word and of what belongs behind it."""
    if not isinstance(call, tuple) or len(call) < 2 or not isinstance(call[0], str):
        return False
    word = call[0]
    if word in ONE_NAME:
        return len(call) == 2 and is_held(call[1], held)
    if len(call) != 3 or not is_held(call[1], held):
        return False
    if word in NAME_AND_COUNT:
        return is_integer(call[2]) and call[2] >= 0
    return word in TWO_NAMES and is_held(call[2], held)


def names_in(call):
    """The names behind the word of a call."""
    return list(call[1:2] if call[0] in NAME_AND_COUNT else call[1:])


def check_size(call, numbers):
    """Raise TooGreat for a call whose result would be too long."""
    word = call[0]
    if word not in MOST_BITS or 0 in numbers:
        return
    bits = sum([number.bit_length() for number in numbers])
    if word in NAME_AND_COUNT:
        bits += call[2]
    if bits > MOST_BITS[word]:
        raise TooGreat()


def result_of(machine, call, numbers):
    """The integer that a call makes of the numbers of its names."""
    action = action_of(call[0])
    arguments = [big_of(machine, number) for number in numbers]
    if call[0] in NAME_AND_COUNT:
        arguments.append(call[2])
    found = action(machine, *arguments)
    return found.value


def action_of(word):
    """The function that carries out a word."""
    actions = {
        "add": add,
        "subtract": subtract,
        "multiply": multiply,
        "floor": floor_divide,
        "modulo": modulo,
        "gcd": gcd,
        "and": bit_and,
        "or": bit_or,
        "xor": bit_xor,
        "square": square,
        "not": bit_not,
        "root": isqrt,
        "left": shift_left,
        "right": shift_right,
    }
    return actions[word]


def cost_between(before, after):
    """The words that were counted between two tallies, with how often they were."""
    return [(word, number - old) for (word, old), (again, number) in zip(before, after) if number > old]
