"""The reading of packed rows told over again for the tests, over texts of 0 and 1."""

from reference import MARK, codewords


class Off(Exception):
    """A fault, or bits that are no block."""


class Bits:
    def __init__(self, octets):
        self.rest = "".join(format(octet, "08b")[::-1] for octet in octets)

    def take(self, width):
        if len(self.rest) < width:
            raise Off
        taken = self.rest[:width]
        self.rest = self.rest[width:]
        return int("0" + taken[::-1], 2)

    def symbol(self, lengths):
        for symbol, word in codewords(lengths).items():
            if self.rest.startswith(word):
                self.rest = self.rest[len(word):]
                return symbol
        raise Off

    def further(self, kind):
        return 0 if kind == 0 else (1 << (kind - 1)) + self.take(kind - 1)


def take_lengths(bits):
    lengths = []
    full = True
    while len(lengths) < 276:
        length = bits.take(4)
        if length:
            lengths.append(length)
            full = True
            continue
        run = bits.take(8) + 1
        if not full:
            raise Off
        full = run == 256
        lengths += [0] * run
    if len(lengths) != 276:
        raise Off
    return lengths


def check(lengths):
    told = [length for length in lengths if length]
    if told not in ([], [1]) and (len(told) == 1 or sum(2 ** -length for length in told) != 1):
        raise Off


def block_text(octets):
    bits = Bits(octets)
    size = bits.take(10) + 1
    lengths = take_lengths(bits)
    symbols, distances = lengths[:265], lengths[265:]
    check(symbols)
    check(distances)
    if not any(symbols) or any(symbols[256:]) and not any(distances):
        raise Off
    text = []
    while len(text) < size:
        symbol = bits.symbol(symbols)
        if symbol < 256:
            text.append(symbol)
            continue
        length = 3 + bits.further(symbol - 256)
        distance = 1 + bits.further(bits.symbol(distances))
        if distance > len(text):
            raise Off
        for _ in range(length):
            text.append(text[-distance])
    if len(text) > size or len(bits.rest) > 7 or "1" in bits.rest:
        raise Off
    return text


def blocks(row):
    """Of each block its kind's place, its kind, what's behind it and its text's size, checked up to the end."""
    for place, octet in enumerate(MARK):
        if place == len(row):
            raise Off(1, place)
        if row[place] != octet:
            raise Off(2, place)
    place = 4
    before = None
    while True:
        if place + 4 > len(row):
            raise Off(1, len(row))
        count = int.from_bytes(row[place:place + 4], "little")
        if count == 0:
            return place + 4
        if before is not None and before[1] != 1024:
            raise Off(3, before[0])
        if count == 1 or count > 1025:
            raise Off(3, place)
        octets = row[place + 4:place + 4 + count]
        if len(octets) < count:
            raise Off(1, len(row))
        if octets[0] > 1:
            raise Off(2, place + 4)
        if octets[0] == 1 and count < 3:
            raise Off(5, place + 4)
        size = count - 1 if octets[0] == 0 else Bits(octets[1:]).take(10) + 1
        before = (place + 4, size)
        yield place + 4, octets[0], octets[1:], size
        place += 4 + count


def read(row, start, n):
    """How many bytes the row's text has, how many blocks, and the text's part; Off with the first fault."""
    size = 0
    told = 0
    part = []
    walk = blocks(row)
    while True:
        try:
            kind_place, kind, octets, block_size = next(walk)
        except StopIteration as stop:
            place = stop.value
            break
        wanted = [k for k in range(size, size + block_size) if start <= k < start + n]
        if wanted:
            try:
                text = octets if kind == 0 else block_text(octets)
            except Off:
                raise Off(5, kind_place)
            part += [text[k - size] for k in wanted]
        size += block_size
        told += 1
    if place + 8 > len(row):
        raise Off(1, len(row))
    if int.from_bytes(row[place:place + 8], "little") != size:
        raise Off(3, place)
    if place + 8 < len(row):
        raise Off(4, place + 8)
    return size, told, part
