"""The errors of the program, one class for each kind of failure."""


class BitsError(ArithmeticError):
    """The class above all errors of the program."""


class InvalidMachine(BitsError):
    """A machine cannot have this part: "bits" or "cutoff"."""

    def __init__(self, part):
        BitsError.__init__(self, f"no such machine: {shown(part)}")
        self.part = part


class InvalidBound(BitsError):
    """The argument of this name is not what the function asks for."""

    def __init__(self, argument):
        BitsError.__init__(self, f"wrong argument: {shown(argument)}")
        self.argument = argument


class InvalidText(BitsError):
    """A text is wrong from this place on; -1 stands for no text at all."""

    def __init__(self, place):
        BitsError.__init__(self, f"wrong text at place {shown(place)}")
        self.place = place


class InvalidCall(BitsError):
    """This is no call that a desk can carry out."""

    def __init__(self, call):
        # The message leaves the call out: it may be nested too deep to be written.
        BitsError.__init__(self, "no such call")
        self.call = call


class ZeroDivisor(BitsError):
    """Something was divided by 0."""


class TooGreat(BitsError):
    """The numbers are greater than the function takes or makes."""


class LimitExceeded(BitsError):
    """A text has more digits than this limit."""

    def __init__(self, limit):
        BitsError.__init__(self, f"more digits than {shown(limit)}")
        self.limit = limit


def shown(field):
    """A field as a message writes it; one that may be too long, or nested too deep, to be written is left out."""
    if isinstance(field, str):
        return field
    return str(field) if isinstance(field, int) and field.bit_length() <= 64 else "(not shown)"
