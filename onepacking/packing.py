"""Texts packed: the packed row, block by block, as soon as each is known."""

from onepacking.bits import low_first, octets_of
from onepacking.coding import coded

MARK = (0x53, 0x57, 0x5A, 0x31)
BLOCK_SIZE = 1024
COUNT_OCTETS = 4
SIZE_OCTETS = 8
STORED = 0
CODED = 1


def octets_of_number(number, width):
    """The number in so many bytes, the lowest first."""
    return octets_of(low_first(number, 8 * width))


def packed_block(text):
    """The block of the text, of 1 to 1,024 bytes: its count, its kind and what follows."""
    kind = CODED
    behind = coded(text)
    if len(behind) >= len(text):
        kind = STORED
        behind = text
    return octets_of_number(1 + len(behind), COUNT_OCTETS) + [kind] + behind


def packed_end(size):
    """What stands behind the blocks of a text of so many bytes."""
    return [0] * COUNT_OCTETS + octets_of_number(size, SIZE_OCTETS)


class Packing:
    """A text that comes piece by piece; each byte of its packed row is given once, as soon as it's known."""

    def __init__(self):
        self.size = 0
        # What comes behind the blocks that are packed: one block at most, since each waits for a byte behind it.
        self.waiting = []
        # What's packed and isn't given yet.
        self.upcoming = list(MARK)
        # A short row may stand for hundreds of blocks that are the same: none is packed twice.
        self.known = {}

    def add_block(self, text):
        """Packs the next block."""
        key = tuple(text)
        if key not in self.known:
            self.known[key] = packed_block(text)
        self.upcoming.extend(self.known[key])

    def add_text(self, octets):
        """Takes the text's next bytes; each block is packed behind which there's another byte."""
        self.size += len(octets)
        text = self.waiting + octets
        start = 0
        while len(text) - start > BLOCK_SIZE:
            self.add_block(text[start:start + BLOCK_SIZE])
            start += BLOCK_SIZE
        self.waiting = text[start:]

    def add_end(self):
        """Packs what's left: the text has no more bytes."""
        if self.waiting:
            self.add_block(self.waiting)
        self.waiting = []
        self.upcoming.extend(packed_end(self.size))

    def give(self):
        """What's packed and wasn't given yet."""
        given = self.upcoming
        self.upcoming = []
        return given


def packed(text):
    """The text's packed row."""
    packing = Packing()
    packing.add_text(text)
    packing.add_end()
    return packing.give()
