"""A coded block written and read: what stands behind its kind."""

from onepacking.bits import BitReader, NoCodedBlock, high_first, low_first, octets_of
from onepacking.classes import class_of, class_start, further_width
from onepacking.codes import LONGEST_WORD, code_lengths, codewords, is_whole
from onepacking.matches import SHORTEST_MATCH
from onepacking.parses import block_parse

LETTERS = 256
SYMBOLS = 265
DISTANCE_CLASSES = 11
LONGEST_RUN = 256
SIZE_WIDTH = 10
LENGTH_WIDTH = 4
RUN_WIDTH = 8


def symbol_of(step):
    """The step's symbol."""
    if step[0] == 0:
        return step[1]
    return LETTERS + class_of(step[0] - SHORTEST_MATCH)


def further_bits(number):
    """The bits below the number's highest."""
    return low_first(number, further_width(class_of(number)))


def run_of_noughts(lengths, start):
    """How many noughts stand from the start on, as many as one run tells."""
    stop = start
    while stop < len(lengths) and stop - start < LONGEST_RUN and lengths[stop] == 0:
        stop += 1
    return stop - start


def length_bits(lengths):
    """The bits that tell the row of lengths."""
    bits = []
    place = 0
    while place < len(lengths):
        bits.extend(low_first(lengths[place], LENGTH_WIDTH))
        if lengths[place] == 0:
            run = run_of_noughts(lengths, place)
            bits.extend(low_first(run - 1, RUN_WIDTH))
            place += run
        else:
            place += 1
    return bits


def parse_bits(parse, lengths, distance_lengths):
    """The bits of the parse's steps."""
    words = codewords(lengths)
    distance_words = codewords(distance_lengths)
    bits = []
    for step in parse:
        symbol = symbol_of(step)
        bits.extend(high_first(words[symbol], lengths[symbol]))
        if symbol >= LETTERS:
            kind = class_of(step[1] - 1)
            bits.extend(further_bits(step[0] - SHORTEST_MATCH))
            bits.extend(high_first(distance_words[kind], distance_lengths[kind]))
            bits.extend(further_bits(step[1] - 1))
    return bits


def coded(text):
    """What stands behind the kind of the text's block when it's coded."""
    parse = block_parse(text)
    often = [0] * SYMBOLS
    distance_often = [0] * DISTANCE_CLASSES
    for step in parse:
        often[symbol_of(step)] += 1
        if step[0]:
            distance_often[class_of(step[1] - 1)] += 1
    lengths = code_lengths(often)
    distance_lengths = code_lengths(distance_often)
    bits = low_first(len(text) - 1, SIZE_WIDTH)
    bits.extend(length_bits(lengths + distance_lengths))
    bits.extend(parse_bits(parse, lengths, distance_lengths))
    return octets_of(bits)


def take_lengths(reader):
    """The row of all lengths; NoCodedBlock where its runs aren't told as they're to be."""
    lengths = []
    run = LONGEST_RUN
    while len(lengths) < SYMBOLS + DISTANCE_CLASSES:
        length = reader.take_number(LENGTH_WIDTH)
        if length:
            lengths.append(length)
            run = LONGEST_RUN
        else:
            # Behind a run of fewer than 256 another would be the same noughts told otherwise.
            if run < LONGEST_RUN:
                raise NoCodedBlock()
            run = reader.take_number(RUN_WIDTH) + 1
            lengths.extend([0] * run)
    if len(lengths) > SYMBOLS + DISTANCE_CLASSES:
        raise NoCodedBlock()
    return lengths


def check_codes(lengths, distance_lengths):
    """NoCodedBlock where the lengths are none of a block's codes."""
    if not is_whole(lengths) or not is_whole(distance_lengths) or not any(lengths):
        raise NoCodedBlock()
    if any(lengths[LETTERS:]) and not any(distance_lengths):
        raise NoCodedBlock()


def symbols_by_word(lengths):
    """Of each codeword, as its length and its number, the symbol."""
    return dict([((lengths[symbol], word), symbol) for symbol, word in codewords(lengths).items()])


def take_symbol(reader, symbols):
    """The symbol whose codeword comes; NoCodedBlock where none does."""
    word = 0
    for length in range(1, LONGEST_WORD + 1):
        word = 2 * word + reader.take_bit()
        symbol = symbols.get((length, word))
        if symbol is not None:
            return symbol
    raise NoCodedBlock()


def take_further(reader, kind):
    """The number of the class whose further bits come."""
    return class_start(kind) + reader.take_number(further_width(kind))


def take_text(reader, size, symbols, distance_symbols):
    """The text of so many bytes whose steps come."""
    text = []
    while len(text) < size:
        symbol = take_symbol(reader, symbols)
        if symbol < LETTERS:
            text.append(symbol)
        else:
            length = SHORTEST_MATCH + take_further(reader, symbol - LETTERS)
            distance = 1 + take_further(reader, take_symbol(reader, distance_symbols))
            if distance > len(text) or len(text) + length > size:
                raise NoCodedBlock()
            # Byte by byte: a match may go on with itself.
            first = len(text) - distance
            for place in range(first, first + length):
                text.append(text[place])
    return text


def coded_size(octets):
    """How many bytes the text has, by the first bits; there are two bytes at least."""
    return 1 + BitReader(octets[:2]).take_number(SIZE_WIDTH)


def decoded(octets):
    """The text of what stands behind a coded block's kind; NoCodedBlock if it's none."""
    reader = BitReader(octets)
    size = 1 + reader.take_number(SIZE_WIDTH)
    lengths = take_lengths(reader)
    distance_lengths = lengths[SYMBOLS:]
    lengths = lengths[:SYMBOLS]
    check_codes(lengths, distance_lengths)
    text = take_text(reader, size, symbols_by_word(lengths), symbols_by_word(distance_lengths))
    behind = reader.bits_left()
    if len(behind) >= 8 or any(behind):
        raise NoCodedBlock()
    return text
