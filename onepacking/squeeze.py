"""The interface: a list of calls answered."""

from onepacking.calls import judge, pack, read_at, tell_code, tell_length, tell_parse, unpack
from onepacking.refusals import Refusal
from onepacking.states import States

PACK = 0
UNPACK = 1
AT = 2
JUDGE = 3
LENGTH = 4
PARSE = 5
LENGTHS = 6
BEGIN = 7
FEED = 8
END = 9


class UnknownCall(ValueError):
    """A call's number that no call has."""


class Handed:
    """The numbers handed in, taken from the front; they stay as they are."""

    def __init__(self, numbers):
        self.numbers = numbers
        self.reached = 0

    def has_more(self):
        """Whether there's a number that isn't taken yet."""
        return self.reached < len(self.numbers)

    def take(self):
        """The next number."""
        self.reached += 1
        return self.numbers[self.reached - 1]

    def take_row(self):
        """The next row, ahead of which it's told how many numbers it has."""
        size = self.take()
        self.reached += size
        return self.numbers[self.reached - size:self.reached]


def answer_row(call, row):
    """The answer of a call that's handed nothing but a row."""
    if call == PACK:
        return pack(row)
    if call == UNPACK:
        return unpack(row)
    if call == JUDGE:
        return judge(row)
    if call == LENGTH:
        return tell_length(row)
    if call == PARSE:
        return tell_parse(row)
    if call == LENGTHS:
        return tell_code(row)
    raise UnknownCall()


def answer_next(handed, states):
    """Takes the next call; its answer."""
    call = handed.take()
    if call == AT:
        start = handed.take()
        n = handed.take()
        return read_at(handed.take_row(), start, n)
    if call == BEGIN:
        return states.begin(handed.take())
    if call == FEED:
        state = handed.take()
        return states.feed(state, handed.take_row())
    if call == END:
        return states.end(handed.take())
    return answer_row(call, handed.take_row())


def next_numbers(handed, states):
    """Takes the next call; the numbers of its answer or of its refusal."""
    try:
        answer = answer_next(handed, states)
    except Refusal as refusal:
        return [refusal.number, 0, 0, refusal.kind, refusal.place]
    octets = answer.octets
    figures = answer.figures
    return [answer.number, len(octets)] + octets + [len(figures)] + figures + [0, 0]


def answers(calls):
    """The answers of the calls, one behind another: of each how many numbers, and they."""
    told = []
    handed = Handed(calls)
    states = States()
    while handed.has_more():
        numbers = next_numbers(handed, states)
        told.append(len(numbers))
        told.extend(numbers)
    return told
