"""Texts packed: the packed row, block by block."""

from onepacking.bits import low_first, octets_of
from onepacking.coding import coded

MARK = (0x53, 0x57, 0x5A, 0x31)
BLOCK_SIZE = 1024
COUNT_OCTETS = 4
SIZE_OCTETS = 8
STORED = 0
CODED = 1


def octets_of_number(number, width):
    """The number in so many bytes, the lowest first."""
    return octets_of(low_first(number, 8 * width))


def packed_block(text):
    """The block of the text, of 1 to 1,024 bytes: its count, its kind and what follows."""
    kind = CODED
    behind = coded(text)
    if len(behind) >= len(text):
        kind = STORED
        behind = text
    return octets_of_number(1 + len(behind), COUNT_OCTETS) + [kind] + behind


def packed_end(size):
    """What stands behind the blocks of a text of so many bytes."""
    return [0] * COUNT_OCTETS + octets_of_number(size, SIZE_OCTETS)


def packed(text):
    """The text's packed row."""
    row = list(MARK)
    # A short row may stand for hundreds of blocks that are the same: none is packed twice.
    known = {}
    for start in range(0, len(text), BLOCK_SIZE):
        block = text[start:start + BLOCK_SIZE]
        key = tuple(block)
        if key not in known:
            known[key] = packed_block(block)
        row.extend(known[key])
    row.extend(packed_end(len(text)))
    return row
