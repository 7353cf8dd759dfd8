"""Numbers as bits, and bits in bytes, filled from the lowest bit on."""


class NoCodedBlock(ValueError):
    """Bits that are no coded block."""


def low_first(number, width):
    """The number's lowest `width` bits, the lowest first."""
    return [(number >> shift) & 1 for shift in range(width)]


def high_first(number, width):
    """The number's lowest `width` bits, the highest first."""
    return [(number >> shift) & 1 for shift in range(width - 1, -1, -1)]


def octets_of(bits):
    """The bytes that the bits fill, with bits 0 up to a whole byte."""
    octets = []
    for start in range(0, len(bits), 8):
        octet = 0
        for shift, bit in enumerate(bits[start:start + 8]):
            octet |= bit << shift
        octets.append(octet)
    return octets


class BitReader:
    """Takes bits out of bytes, from the front."""

    def __init__(self, octets):
        self.bits = []
        for octet in octets:
            self.bits.extend(low_first(octet, 8))
        self.taken = 0

    def take_bit(self):
        """The next bit; NoCodedBlock where the bits end."""
        if self.taken == len(self.bits):
            raise NoCodedBlock()
        self.taken += 1
        return self.bits[self.taken - 1]

    def take_number(self, width):
        """The number that stands in the next `width` bits, the lowest first."""
        number = 0
        for shift in range(width):
            number |= self.take_bit() << shift
        return number

    def bits_left(self):
        """The bits that aren't taken yet."""
        return self.bits[self.taken:]
