"""The refusals of the calls, one error class for each."""


class Refusal(ValueError):
    """A refused call: its number, below 0, and its fault (0 and 0 where none is told)."""

    def __init__(self, number, kind, place):
        self.number = number
        self.kind = kind
        self.place = place


class BeyondText(Refusal):
    """A place above the text's length."""

    def __init__(self):
        Refusal.__init__(self, -1, 0, 0)


class TooOften(Refusal):
    """Symbols that come more often than the call takes."""

    def __init__(self):
        Refusal.__init__(self, -1, 0, 0)


class NoState(Refusal):
    """A state above the highest."""

    def __init__(self):
        Refusal.__init__(self, -1, 0, 0)


class TooLong(Refusal):
    """More bytes or numbers than the call takes."""

    def __init__(self):
        Refusal.__init__(self, -2, 0, 0)


class NotBegun(Refusal):
    """A state that was never begun, or is ended."""

    def __init__(self):
        Refusal.__init__(self, -3, 0, 0)


class NoPackedRow(Refusal):
    """A row that can't be unpacked: the first fault that's met in it."""

    def __init__(self, kind, place):
        Refusal.__init__(self, -6, kind, place)


class PackedOtherwise(Refusal):
    """A row that unpacks, but to a text whose packed row is another."""

    def __init__(self):
        Refusal.__init__(self, -9, 0, 0)
