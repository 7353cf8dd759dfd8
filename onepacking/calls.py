"""The calls that need no state: each gives back an Answer or raises its refusal."""

from onepacking.codes import code_lengths
from onepacking.coding import SYMBOLS
from onepacking.packing import BLOCK_SIZE, packed
from onepacking.parses import block_parse
from onepacking.reading import RowReader
from onepacking.refusals import BeyondText, PackedOtherwise, TooLong, TooOften

MOST_TEXT = 65536
MOST_ROW = 131072
MOST_OFTEN = 32768
MOST_OFTEN_IN_SUM = 65536


class Answer:
    """What a call tells: a number, bytes, a list of numbers."""

    def __init__(self, number, octets, figures):
        self.number = number
        self.octets = octets
        self.figures = figures


def read_part(row, start, stop):
    """The reader of a whole packed row, of which the blocks with a byte from start to stop were opened."""
    if len(row) > MOST_ROW:
        raise TooLong()
    reader = RowReader(row, start, stop)
    reader.read()
    return reader


def read_text(row):
    """The text of a packed row, all its blocks being opened."""
    # No row has a text of as many bytes: each block of one takes bytes of its own.
    return read_part(row, 0, BLOCK_SIZE * len(row)).part


def pack(text):
    """The text's packed row."""
    if len(text) > MOST_TEXT:
        raise TooLong()
    row = packed(text)
    return Answer(len(row), row, [])


def unpack(row):
    """The packed row's text."""
    text = read_text(row)
    return Answer(len(text), text, [])


def read_at(row, start, n):
    """The n bytes from the start on of the packed row's text, or as many as there are."""
    reader = read_part(row, start, start + n)
    if start > reader.text_size:
        raise BeyondText()
    return Answer(len(reader.part), reader.part, [])


def judge(row):
    """Whether the row is what packing its text gives."""
    if packed(read_text(row)) != row:
        raise PackedOtherwise()
    return Answer(0, [], [])


def tell_length(row):
    """How many bytes the packed row's text has, and how many blocks."""
    reader = read_part(row, 0, 0)
    return Answer(0, [], [reader.text_size, reader.blocks])


def tell_parse(text):
    """The steps of the block's parse."""
    if len(text) > BLOCK_SIZE:
        raise TooLong()
    parse = block_parse(text)
    figures = []
    for step in parse:
        figures.extend(step)
    return Answer(len(parse), [], figures)


def tell_code(often):
    """The lengths of a code by how often its symbols come."""
    if len(often) > SYMBOLS:
        raise TooLong()
    if max(often, default=0) > MOST_OFTEN or sum(often) > MOST_OFTEN_IN_SUM:
        raise TooOften()
    return Answer(0, code_lengths(often), [])
