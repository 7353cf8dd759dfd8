"""Squeeze told over again for the tests, as slowly and as near to the document's words as can be."""

from functools import lru_cache

from onepacking.squeeze import answers

MARK = [0x53, 0x57, 0x5A, 0x31]


def call(number, *rest):
    """The numbers answered to one call; the last thing handed in is its row."""
    handed = [number, *rest[:-1], len(rest[-1]), *rest[-1]]
    copy = list(handed)
    given = answers(handed)
    assert handed == copy
    assert all(type(one) is int for one in given)
    assert given[0] == len(given) - 1
    return given[1:]


def answered(*calls):
    """What's answered to the calls when they're handed in as one list: of each its numbers."""
    handed = [number for one in calls for number in one]
    copy = list(handed)
    given = answers(handed)
    assert handed == copy
    told = []
    while given:
        told.append(given[1:1 + given[0]])
        assert len(told[-1]) == given[0]
        given = given[1 + given[0]:]
    assert len(told) == len(calls)
    return told


def told_parse(text):
    """The steps that are answered to parse."""
    given = call(5, text)
    assert given[1] == 0 and given[2] == 2 * given[0] == len(given) - 5 and given[-2:] == [0, 0]
    return list(zip(given[3:-2:2], given[4:-2:2]))


def told_lengths(often):
    """The lengths that are answered to lengths."""
    given = call(6, often)
    assert given[:2] == [0, len(often)] and given[2 + len(often):] == [0, 0, 0]
    return given[2:2 + len(often)]


def pack(text):
    given = call(0, text)
    assert given[0] == given[1] and given[2 + given[1]:] == [0, 0, 0]
    return given[2:2 + given[1]]


def unpacked(text):
    return [len(text), len(text), *text, 0, 0, 0]


def fault(kind, place):
    return [-6, 0, 0, kind, place]


def low(number, width):
    return "".join(str(number >> k & 1) for k in range(width))


def bytes_of(bits):
    bits += "0" * (-len(bits) % 8)
    return [int(bits[k:k + 8][::-1], 2) for k in range(0, len(bits), 8)]


def number(value, width):
    return list(value.to_bytes(width, "little"))


def row_of(blocks, size):
    """A packed row of blocks that are given as what stands behind their counts."""
    return MARK + [x for block in blocks for x in number(len(block), 4) + block] + [0] * 4 + number(size, 8)


def further(value):
    return bin(value)[3:][::-1]


def bit_class(value):
    return len(bin(value)) - 2 if value else 0


@lru_cache(maxsize=None)
def cost(step):
    if step[0] == 0:
        return 8
    return 12 + len(further(step[0] - 3)) + len(further(step[1] - 1))


def reaches(text):
    """Of each place, the last first, how long a match at each distance is at most (distance 0 aside)."""
    behind = [0] * (len(text) + 1)
    for place in reversed(range(len(text))):
        behind = [0] + [min(258, behind[distance] + 1) if text[place] == text[place - distance] else 0
                        for distance in range(1, place + 1)]
        yield place, behind


def steps_at(letter, reach):
    """The steps at a place, in their told order; of one length the least distance, as no other is cheaper."""
    yield 0, letter
    length = 3
    for distance, longest in enumerate(reach):
        while length <= longest:
            yield length, distance
            length += 1


def parse(text):
    """The first parse of the least cost."""
    tails = [0] * (len(text) + 1)
    firsts = [None] * len(text)
    for place, reach in reaches(text):
        best = None
        for step in steps_at(text[place], reach):
            total = cost(step) + tails[place + max(1, step[0])]
            if best is None or total < best:
                best = total
                firsts[place] = step
        tails[place] = best
    steps = []
    place = 0
    while place < len(text):
        steps.append(firsts[place])
        place += max(1, firsts[place][0])
    return steps


def all_parses(text, place=0):
    """Every parse of the text from the place on, each match at each distance that fits."""
    if place == len(text):
        yield []
        return
    steps = [(0, text[place])]
    for length in range(3, len(text) - place + 1):
        for distance in range(1, place + 1):
            if all(text[k] == text[k - distance] for k in range(place, place + length)):
                steps.append((length, distance))
    for step in steps:
        for rest in all_parses(text, place + max(1, step[0])):
            yield [step] + rest


def code_lengths(often):
    """The lengths by packages that are written out, symbol by symbol."""
    leaves = sorted((times, symbol) for symbol, times in enumerate(often) if times)
    lengths = [0] * len(often)
    if len(leaves) == 1:
        lengths[leaves[0][1]] = 1
    if len(leaves) < 2:
        return lengths
    alone = [(times, [symbol]) for times, symbol in leaves]
    row = alone
    for _ in range(14):
        packages = [(a[0] + b[0], a[1] + b[1]) for a, b in zip(row[::2], row[1::2])]
        upcoming = []
        left = list(alone)
        while left or packages:
            take_leaf = not packages or (left and left[0][0] <= packages[0][0])
            upcoming.append((left if take_leaf else packages).pop(0))
        row = upcoming
    for item in row[:2 * len(leaves) - 2]:
        for symbol in item[1]:
            lengths[symbol] += 1
    return lengths


def codewords(lengths):
    """Of each symbol with a length its codeword, as text."""
    words = {}
    upcoming = None
    for length, symbol in sorted((length, symbol) for symbol, length in enumerate(lengths) if length):
        upcoming = 0 if upcoming is None else (upcoming + 1) << (length - before)
        words[symbol] = format(upcoming, "0" + str(length) + "b")
        before = length
    return words


def length_bits(lengths):
    """The row of lengths in bits, runs of noughts as they're told."""
    text = "".join(chr(97 + length) for length in lengths)
    bits = ""
    while text:
        run = len(text) - len(text.lstrip("a"))
        if run:
            run = min(run, 256)
            bits += "0000" + low(run - 1, 8)
        else:
            bits += low(ord(text[0]) - 97, 4)
            run = 1
        text = text[run:]
    return bits


def step_bits(steps, words, distance_words):
    bits = ""
    for length, what in steps:
        if length == 0:
            bits += words[what]
        else:
            bits += words[256 + bit_class(length - 3)] + further(length - 3)
            bits += distance_words[bit_class(what - 1)] + further(what - 1)
    return bits


def coded_bits(size, steps, lengths, distances):
    """The bits of a block of the steps, with the codes of the lengths."""
    told = low(size - 1, 10) + length_bits(lengths + distances)
    return told + step_bits(steps, codewords(lengths), codewords(distances))


def own_lengths(steps):
    """The lengths of both codes by how often the steps have each symbol and each distance class."""
    often = [0] * 265
    far = [0] * 11
    for length, what in steps:
        often[256 + bit_class(length - 3) if length else what] += 1
        if length:
            far[bit_class(what - 1)] += 1
    return code_lengths(often), code_lengths(far)


def coded_block(text, steps=None):
    """What stands behind the count of a coded block of the steps, with their own codes."""
    steps = parse(text) if steps is None else steps
    return [1] + bytes_of(coded_bits(len(text), steps, *own_lengths(steps)))


@lru_cache(maxsize=None)
def block_of(text):
    coded = coded_block(list(text))
    return coded if len(coded) - 1 < len(text) else [0, *text]


def packed(text):
    """The text's packed row."""
    return row_of([list(block_of(tuple(text[k:k + 1024]))) for k in range(0, len(text), 1024)], len(text))
