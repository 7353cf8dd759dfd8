"""Texts packed, unpacked, read at places, judged, their lengths told."""

import unittest

from reference import bytes_of, call, coded_bits, coded_block, own_lengths, pack, packed, parse, row_of, unpacked
from texts import TEXTS, copies, noise, sentence

HIGHEST = 18446744073709551615
RIGHT = [0, 0, 0, 0, 0]
OTHERWISE = [-9, 0, 0, 0, 0]


class RoundTrips(unittest.TestCase):
    def test_packed_as_told(self):
        for text in TEXTS:
            self.assertEqual(pack(text), packed(text))

    def test_unpacked_is_what_was_packed(self):
        for text in TEXTS:
            self.assertEqual(call(1, pack(text)), unpacked(text))

    def test_at_each_place_its_part(self):
        for text in TEXTS:
            row = pack(text)
            size = len(text)
            for start in {0, 1, size // 2, size - 1, size, 1023, 1024, 1025, 2047}:
                for n in (0, 1, 2, 1023, 1024, 1025, 2 ** 32, HIGHEST):
                    if 0 <= start <= size:
                        self.assertEqual(call(2, start, n, row), unpacked(text[start:start + n]))

    def test_at_goes_over_every_place(self):
        text = sentence(1100)
        row = pack(text)
        for start in range(1101):
            self.assertEqual(call(2, start, 1, row), unpacked(text[start:start + 1]))

    def test_at_above_the_text(self):
        for text in TEXTS:
            row = pack(text)
            for start in (len(text) + 1, len(text) + 5000, HIGHEST):
                for n in (0, 1, HIGHEST):
                    self.assertEqual(call(2, start, n, row), [-1, 0, 0, 0, 0])

    def test_judged_right(self):
        for text in TEXTS:
            self.assertEqual(call(3, pack(text)), RIGHT)

    def test_lengths_told(self):
        for text in TEXTS:
            self.assertEqual(call(4, pack(text)), [0, 0, 2, len(text), -(-len(text) // 1024), 0, 0])

    def test_texts_as_long_as_they_may_be_handed_in(self):
        for text in (noise(15990, 256, 1), [0] * 15990, copies(15990, 4)):
            row = pack(text)
            self.assertEqual(call(1, row), unpacked(text))
            self.assertEqual(call(3, row), RIGHT)
            self.assertEqual(call(2, 15000, HIGHEST, row), unpacked(text[15000:]))
            self.assertEqual(call(4, row), [0, 0, 2, 15990, 16, 0, 0])


class RowsByHand(unittest.TestCase):
    """Rows that are worked out from the document alone, not by the reference."""

    def test_no_bytes(self):
        self.assertEqual(pack([]), [0x53, 0x57, 0x5A, 0x31] + [0] * 12)

    def test_one_byte_is_stored(self):
        self.assertEqual(pack([5]), [0x53, 0x57, 0x5A, 0x31, 2, 0, 0, 0, 0, 5, 0, 0, 0, 0, 1, 0, 0, 0, 0, 0, 0, 0])

    def test_a_match_of_distance_one_that_goes_on_with_itself(self):
        # A letter 0 and a match of length 19: of length class 5, of distance class 0.
        bits = ("1100100000" + "1000" + "0000" + "11111111" + "0000" + "11000000" + "1000" + "0000" + "01000000"
                + "1000" + "0000" + "10010000" + "0" + "1" + "0000" + "0")
        self.assertEqual(len(bits), 77)
        self.assertEqual(pack([0] * 20), row_of([[1] + bytes_of(bits)], 20))

    def test_coded_just_if_shorter_than_its_text(self):
        # Both are a letter and a match of length class 3: 75 bits, so 10 bytes.
        steps = [(0, 0), (9, 1)]
        self.assertEqual(len(coded_block([0] * 10, steps)) - 1, 10)
        self.assertEqual(pack([0] * 10), row_of([[0] + [0] * 10], 10))
        self.assertEqual(pack([0] * 11), row_of([coded_block([0] * 11, [(0, 0), (10, 1)])], 11))

    def test_lengths_of_3_and_of_258(self):
        for size, steps in ((259, [(0, 1), (258, 1)]), (260, [(0, 1), (0, 1), (258, 1)])):
            self.assertEqual(pack([1] * size), row_of([coded_block([1] * size, steps)], size))
        text = [1, 2, 3, 1, 2, 3, 4] + [4] * 60
        steps = [(0, 1), (0, 2), (0, 3), (3, 3), (0, 4), (60, 1)]
        self.assertEqual(pack(text), row_of([coded_block(text, steps)], len(text)))

    def test_a_distance_as_far_as_there_is(self):
        ahead = [200, 201, 202, 203]
        text = ahead + [1] * 1016 + ahead
        steps = parse(text)
        self.assertEqual(steps[-1], (4, 1020))
        self.assertEqual(pack(text), row_of([coded_block(text, steps)], 1024))

    def test_blocks_are_packed_by_themselves(self):
        text = [(k * k * 31 + k // 7) % 251 for k in range(1024)]
        row = pack(text + text)
        block = row[4:-12]
        self.assertEqual(block[:len(block) // 2], block[len(block) // 2:])
        self.assertEqual(row[4:4 + len(block) // 2], pack(text)[4:-12])

    def test_of_two_blocks_one_stored_one_coded(self):
        text = noise(1024, 256, 3) + [8] * 30
        blocks = [[0] + text[:1024], coded_block([8] * 30, [(0, 8), (29, 1)])]
        self.assertEqual(pack(text), row_of(blocks, 1054))


class JudgedOtherwise(unittest.TestCase):
    """Rows that unpack, but aren't what packing gives."""

    def rejected(self, blocks, text):
        row = row_of(blocks, len(text))
        self.assertEqual(call(1, row), unpacked(text))
        self.assertEqual(call(3, row), OTHERWISE)
        self.assertEqual(call(4, row), [0, 0, 2, len(text), len(blocks), 0, 0])
        self.assertEqual(call(2, 0, HIGHEST, row), unpacked(text))

    def test_stored_though_coded_is_shorter(self):
        self.rejected([[0] + [3] * 50], [3] * 50)
        self.rejected([[0] + [3] * 1024, [0, 1]], [3] * 1024 + [1])

    def test_coded_though_not_shorter(self):
        self.rejected([coded_block([3] * 10)], [3] * 10)
        self.rejected([coded_block([3])], [3])

    def test_another_parse(self):
        self.rejected([coded_block([3] * 50, [(0, 3), (0, 3), (48, 1)])], [3] * 50)
        self.rejected([coded_block([3] * 50, [(0, 3), (3, 1), (46, 1)])], [3] * 50)
        self.rejected([coded_block([1, 2] * 30, [(0, 1), (0, 2), (29, 2), (29, 4)])], [1, 2] * 30)

    def test_a_parse_as_cheap_that_comes_later(self):
        text = [1] * 700
        for steps in ([(0, 1), (258, 1), (183, 1), (258, 1)], [(0, 1), (258, 1), (183, 1), (258, 2)]):
            self.rejected([coded_block(text, steps)], text)

    def test_other_codes(self):
        text = [1, 2, 1, 1, 1, 2, 3, 3, 1] * 4
        steps = [(0, letter) for letter in text[:9]] + [(27, 9)]
        self.assertEqual(parse(text), steps)
        lengths, distances = own_lengths(steps)
        self.assertEqual((lengths[1], lengths[2], lengths[3], lengths[261]), (1, 3, 2, 3))
        swapped = list(lengths)
        swapped[1], swapped[2] = 3, 1
        self.rejected([[1] + bytes_of(coded_bits(36, steps, swapped, distances))], text)
        with_another = list(lengths)
        with_another[2] = with_another[77] = 4
        self.rejected([[1] + bytes_of(coded_bits(36, steps, with_another, distances))], text)

    def test_distance_classes_that_no_match_has(self):
        text = noise(40, 2, 5)
        steps = [(0, letter) for letter in text]
        lengths = own_lengths(steps)[0]
        for distances in ([0] * 11, [1] + [0] * 10, [0, 1, 2, 2] + [0] * 7):
            self.rejected([[1] + bytes_of(coded_bits(40, steps, lengths, distances))], text)

    def test_a_code_of_one_symbol_alone(self):
        lengths = [0] * 265
        lengths[9] = 1
        row = [1] + bytes_of(coded_bits(30, [(0, 9)] * 30, lengths, [0] * 11))
        self.rejected([row], [9] * 30)

    def test_all_lengths_up_to_fifteen(self):
        lengths = list(range(1, 15)) + [15, 15] + [0] * 249
        text = list(range(16)) * 3
        steps = [(0, letter) for letter in text]
        self.rejected([[1] + bytes_of(coded_bits(48, steps, lengths, [0] * 11))], text)


class LongTexts(unittest.TestCase):
    """Rows of texts of more than 65,536 bytes."""

    def test_judged_right(self):
        block = coded_block([4] * 1024)
        for blocks, rest in ((64, [4]), (70, []), (700, [1, 2, 3])):
            text = [4] * 1024 * blocks + rest
            row = row_of([block] * blocks + ([[0] + rest] if rest else []), len(text))
            self.assertEqual(call(1, row), unpacked(text))
            self.assertEqual(call(3, row), RIGHT)
            self.assertEqual(call(4, row), [0, 0, 2, len(text), blocks + len(rest[:1]), 0, 0])
            self.assertEqual(call(2, len(text) - 5, 9, row), unpacked(text[-5:]))

    def test_several_texts_of_blocks_judged_right(self):
        texts = [[k % 8] * (100 + k % 8) + [9] * (924 - k % 8) for k in range(70)]
        whole = [x for text in texts for x in text]
        row = packed(whole)
        self.assertEqual(call(1, row), unpacked(whole))
        self.assertEqual(call(3, row), RIGHT)
        blocks = {text[0]: coded_block(text) for text in texts[:8]}
        self.assertEqual(row, row_of([blocks[text[0]] for text in texts], len(whole)))
        for place in (0, 64, 69):
            changed = [blocks[text[0]] for text in texts]
            changed[place] = [0] + texts[place]
            self.assertEqual(call(3, row_of(changed, len(whole))), OTHERWISE)

    def test_judged_otherwise(self):
        block = coded_block([4] * 1024)
        other = coded_block([4] * 1024, [(0, 4), (0, 4), (258, 1), (258, 1), (258, 1), (248, 1)])
        stored = [0] + [4] * 1024
        for place in (0, 35, 69):
            for wrong in (other, stored):
                blocks = [block] * 70
                blocks[place] = wrong
                row = row_of(blocks, 70 * 1024)
                self.assertEqual(call(3, row), OTHERWISE)
                self.assertEqual(call(1, row)[0], 70 * 1024)


class TooLong(unittest.TestCase):
    def test_a_text_of_more_than_65536_bytes(self):
        self.assertEqual(call(0, [0] * 65537), [-2, 0, 0, 0, 0])
        row = pack([0] * 65536)
        self.assertEqual(row, row_of([coded_block([0] * 1024)] * 64, 65536))

    def test_a_row_of_more_than_131072_bytes(self):
        for row in ([0] * 131073, row_of([[0] + [k % 256 for k in range(1024)]] * 128, 131072)):
            self.assertGreater(len(row), 131072)
            for numbers in ((1,), (2, 0, 0), (2, HIGHEST, 1), (3,), (4,)):
                self.assertEqual(call(*numbers, row), [-2, 0, 0, 0, 0])

    def test_a_row_of_131072_bytes(self):
        row = row_of([[0] + [k % 256 for k in range(1024)]] * 127, 130048)
        row += [0] * (131072 - len(row))
        for numbers in ((1,), (2, 0, 0), (3,), (4,)):
            self.assertEqual(call(*numbers, row), [-6, 0, 0, 4, 4 + 127 * 1029 + 12])


if __name__ == "__main__":
    unittest.main()
