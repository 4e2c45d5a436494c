"""Machines: how numbers are kept, and what was counted while they were worked out."""

from thirtybits.errors import InvalidBound, InvalidMachine
from thirtybits.wholes import is_between

WORDS = (
    "short",
    "sum",
    "product",
    "quotient",
    "corrected",
    "restored",
    "shifted",
    "combined",
    "complemented",
    "looked",
)
LONGEST_WALK = 1000


class Machine:
    """The bits of a digit and the cutoff of products, with a tally and a walk."""

    def __init__(self, bits=30, cutoff=70):
        if not is_between(bits, 8, 30):
            raise InvalidMachine("bits")
        if not is_between(cutoff, 2, 1000):
            raise InvalidMachine("cutoff")
        self.width = bits
        self.cutoff = cutoff
        self.counts = {word: 0 for word in WORDS}
        self.entered = []

    def __eq__(self, other):
        return isinstance(other, Machine) and self.width == other.width and self.cutoff == other.cutoff

    def parts(self):
        """The bits of a digit and the cutoff."""
        return self.width, self.cutoff

    def tally(self):
        """How often each word was counted."""
        return [(word, self.counts[word]) for word in WORDS]

    def walk(self):
        """The first routines that were entered, with their sizes."""
        return list(self.entered)

    def reset(self):
        """Forget all that was counted and entered."""
        self.counts = {word: 0 for word in WORDS}
        self.entered = []

    def step(self, word, many):
        """Count a word this many times."""
        self.counts[word] += many

    def enter(self, word, m, n):
        """Note in the walk that a routine is entered."""
        if len(self.entered) < LONGEST_WALK:
            self.entered.append((word, m, n))


def check_machine(machine):
    """Raise InvalidBound for what is no machine."""
    if not isinstance(machine, Machine):
        raise InvalidBound("machine")
