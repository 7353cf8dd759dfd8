"""Packed rows read from the front, up to the first fault."""

from onepacking.bits import NoCodedBlock
from onepacking.coding import coded_size, decoded
from onepacking.packing import BLOCK_SIZE, CODED, COUNT_OCTETS, MARK, SIZE_OCTETS, STORED
from onepacking.refusals import NoPackedRow

# The kinds of faults.
ENDS = 1
NOT_SO = 2
COUNT_OFF = 3
LEFT_OVER = 4
BITS_OFF = 5


class RowReader:
    """Goes over a packed row; of its blocks only those with a byte of the part that's asked for are opened."""

    def __init__(self, row, part_start, part_stop):
        self.row = row
        self.part_start = part_start
        self.part_stop = part_stop
        self.reached = 0
        # What's told of the text when all is read: its bytes, its blocks, the part that's asked for.
        self.text_size = 0
        self.blocks = 0
        self.part = []

    def read(self):
        """Reads the whole row; NoPackedRow at the first fault that's met."""
        self.read_mark()
        kind_place = 0
        size = BLOCK_SIZE
        count_place = self.reached
        count = self.take_number(COUNT_OCTETS)
        while count:
            if size != BLOCK_SIZE:
                raise NoPackedRow(COUNT_OFF, kind_place)
            if count == 1 or count > 1 + BLOCK_SIZE:
                raise NoPackedRow(COUNT_OFF, count_place)
            kind_place = self.reached
            size = self.read_block(self.take(count))
            count_place = self.reached
            count = self.take_number(COUNT_OCTETS)
        self.read_end()

    def take(self, count):
        """The next bytes, so many."""
        if len(self.row) - self.reached < count:
            raise NoPackedRow(ENDS, len(self.row))
        self.reached += count
        return self.row[self.reached - count:self.reached]

    def take_number(self, width):
        """The number in the next bytes, so many, the lowest first."""
        number = 0
        for shift, octet in enumerate(self.take(width)):
            number |= octet << (8 * shift)
        return number

    def read_mark(self):
        """Reads what a packed row begins with: byte by byte, as one that isn't so is met ahead of the row's end."""
        for octet in MARK:
            if self.take_number(1) != octet:
                raise NoPackedRow(NOT_SO, self.reached - 1)

    def read_block(self, octets):
        """Reads the block, of which all bytes behind the count are given; how many bytes its text has."""
        kind_place = self.reached - len(octets)
        kind = octets[0]
        behind = octets[1:]
        if kind not in (STORED, CODED):
            raise NoPackedRow(NOT_SO, kind_place)
        if kind == CODED and len(behind) < 2:
            raise NoPackedRow(BITS_OFF, kind_place)
        size = coded_size(behind) if kind == CODED else len(behind)
        first = max(0, self.part_start - self.text_size)
        last = min(size, self.part_stop - self.text_size)
        if first < last:
            text = self.decoded_at(behind, kind_place) if kind == CODED else behind
            self.part.extend(text[first:last])
        self.text_size += size
        self.blocks += 1
        return size

    def decoded_at(self, behind, kind_place):
        """The text of a coded block, given what stands behind its kind."""
        try:
            return decoded(behind)
        except NoCodedBlock:
            raise NoPackedRow(BITS_OFF, kind_place)

    def read_end(self):
        """Reads what stands behind the blocks and the four noughts."""
        size_place = self.reached
        if self.take_number(SIZE_OCTETS) != self.text_size:
            raise NoPackedRow(COUNT_OFF, size_place)
        if self.reached < len(self.row):
            raise NoPackedRow(LEFT_OVER, self.reached)
