"""The states: texts fed in pieces, and the calls that begin, feed and end them."""

from onepacking.calls import MOST_TEXT, Answer
from onepacking.packing import Packing
from onepacking.refusals import NotBegun, NoState, TooLong

HIGHEST_STATE = 3


def check_state(state):
    """NoState where there's no such state."""
    if state > HIGHEST_STATE:
        raise NoState()


class States:
    """The states 0 to 3; none is begun at first."""

    def __init__(self):
        # The packing of each state that's begun and not ended.
        self.packings = {}

    def packing_of(self, state):
        """The packing of the state."""
        check_state(state)
        if state not in self.packings:
            raise NotBegun()
        return self.packings[state]

    def begin(self, state):
        """Begins the state, also where it's begun already: it has no bytes yet."""
        check_state(state)
        self.packings[state] = Packing()
        return Answer(0, [], [])

    def feed(self, state, octets):
        """Takes the next bytes of the state's text; gives what's known now of its packed row."""
        packing = self.packing_of(state)
        if packing.size + len(octets) > MOST_TEXT:
            raise TooLong()
        packing.add_text(octets)
        row = packing.give()
        return Answer(len(row), row, [])

    def end(self, state):
        """Ends the state; gives the rest of its packed row."""
        packing = self.packing_of(state)
        self.packings.pop(state)
        packing.add_end()
        row = packing.give()
        return Answer(len(row), row, [])
