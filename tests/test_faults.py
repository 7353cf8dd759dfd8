"""Rows that are no packed rows: the kinds and places of their faults, in the order in which they're met."""

import random
import unittest

import reference_reading
from reference import (MARK, bytes_of, call, codewords, coded_bits, coded_block, fault, length_bits, low, number, pack,
                       packed, row_of, step_bits, unpacked)

HIGHEST = 18446744073709551615
# A block of 20 noughts: a letter and a match.
STEPS = [(0, 0), (19, 1)]


def symbols(told):
    return [told.get(symbol, 0) for symbol in range(265)]


def distances(told):
    return [told.get(kind, 0) for kind in range(11)]


def block(bits):
    return [1] + bytes_of(bits)


def told_bits(size, lengths, steps=""):
    return low(size - 1, 10) + length_bits(lengths) + steps


class Faults(unittest.TestCase):
    def everywhere(self, row, kind, place):
        """The fault is met by all calls, whether blocks are looked into or not."""
        for numbers in ((1,), (2, 0, HIGHEST), (2, HIGHEST, HIGHEST), (2, 0, 0), (3,), (4,)):
            self.assertEqual(call(*numbers, row), fault(kind, place), (numbers, row))

    def inside(self, octets, ahead=()):
        """A block whose bits are faulty: met just where they're looked into."""
        blocks = [list(one) for one in ahead] + [octets]
        start = 1024 * len(ahead)
        size = start + 1 + octets[1] + 256 * (octets[2] % 4)
        row = row_of(blocks, size)
        place = len(row) - 12 - len(octets)
        for numbers in ((1,), (2, 0, HIGHEST), (2, start, 1), (2, size - 1, 1), (3,)):
            self.assertEqual(call(*numbers, row), fault(5, place), numbers)
        for numbers in ((2, 0, 0), (2, start, 0), (2, size, 7)):
            self.assertEqual(call(*numbers, row), [0, 0, 0, 0, 0])
        if start:
            self.assertEqual(call(2, start - 1, 1, row)[:2], [1, 1])
        self.assertEqual(call(2, size + 1, HIGHEST, row), [-1, 0, 0, 0, 0])
        self.assertEqual(call(4, row), [0, 0, 2, size, len(blocks), 0, 0])


class Ends(Faults):
    def test_every_row_cut_short(self):
        rows = [pack([]), pack([1, 2]), pack([0] * 30), pack([5] * 1024 + [7])]
        for row in rows:
            for size in range(len(row)):
                self.everywhere(row[:size], 1, size)

    def test_a_block_that_ends_is_not_looked_into(self):
        # Neither its kind nor its bits.
        self.everywhere(MARK + [5, 0, 0, 0, 9, 1, 1], 1, 11)
        self.everywhere(MARK + [5, 0, 0, 0, 1, 255, 255], 1, 11)
        self.everywhere(MARK + [2, 0, 0, 0, 1], 1, 9)


class NotSo(Faults):
    def test_the_mark(self):
        good = pack([1, 2, 3])
        for place in range(4):
            for wrong in (0, good[place] ^ 1, 255):
                row = list(good)
                row[place] = wrong
                self.everywhere(row, 2, place)
                self.everywhere(row[:place + 1], 2, place)
        self.everywhere([0, 0, 0, 0], 2, 0)
        self.everywhere([0x53, 0, 0x5A, 0], 2, 1)

    def test_a_kind_above_one(self):
        for kind in (2, 3, 128, 255):
            self.everywhere(row_of([[kind, 5]], 1), 2, 8)
            self.everywhere(MARK + [3, 0, 0, 0, kind, 5], 1, 10)
            self.everywhere(row_of([[0] + [7] * 1024, [kind, 5]], 1025), 2, 8 + 1025 + 4)


class Counts(Faults):
    def test_a_count_of_one_or_above_1025(self):
        for count in (1, 1026, 1027, 2049, 65536, 2 ** 31, 2 ** 32 - 1):
            self.everywhere(MARK + number(count, 4), 3, 4)
            self.everywhere(MARK + number(count, 4) + [0] * 3000, 3, 4)
            self.everywhere(MARK + number(count, 4)[:3], 1, 7)
        self.everywhere(MARK + number(1025, 4) + [0] * 1025, 1, 8 + 1025)

    def test_another_count_behind_a_short_block(self):
        for octets in ([0, 7], [0] + [7] * 1023, coded_block([0] * 20), coded_block([0] * 1023)):
            row = MARK + number(len(octets), 4) + octets
            for count in (1, 2, 1025, 1026, 2 ** 32 - 1):
                self.everywhere(row + number(count, 4), 3, 8)
                self.everywhere(row + number(count, 4)[:3], 1, len(row) + 3)
        text = [7] * 1024
        full = coded_block(text)
        self.everywhere(row_of([full, [0, 7], full], 2049), 3, 4 + 4 + len(full) + 4)

    def test_a_count_behind_a_whole_block(self):
        for octets in ([0] + [7] * 1024, coded_block([0] * 1024)):
            row = MARK + number(len(octets), 4) + octets
            for count in (1, 1026, 2 ** 32 - 1):
                self.everywhere(row + number(count, 4), 3, len(row))
                self.everywhere(row + number(count, 4)[:3], 1, len(row) + 3)

    def test_the_length_at_the_end(self):
        for text in ([], [1], [0] * 30, [5] * 1500):
            row = pack(text)
            for wrong in (len(text) + 1, len(text) + 256 ** 7, HIGHEST, max(0, len(text) - 1)):
                if wrong != len(text):
                    self.everywhere(row[:-8] + number(wrong, 8), 3, len(row) - 8)
                    self.everywhere(row[:-8] + number(wrong, 8) + [0], 3, len(row) - 8)
                    self.everywhere(row[:-8] + number(wrong, 8)[:7], 1, len(row) - 1)


class LeftOver(Faults):
    def test_bytes_left_over(self):
        for text in ([], [1], [0] * 30, [5] * 1500):
            row = pack(text)
            for more in ([0], [1, 2, 3], row):
                self.everywhere(row + more, 4, len(row))


class Bits(Faults):
    def test_fewer_than_two_bytes(self):
        for octet in (0, 7, 255):
            self.everywhere(row_of([[1, octet]], 1), 5, 8)
            self.everywhere(row_of([coded_block([0] * 1024), [1, octet]], 1), 5, 4 + 4 + len(coded_block([0] * 1024)) + 4)

    def test_two_bytes_are_looked_into_no_further(self):
        self.inside([1, 0, 0])
        self.inside([1, 255, 255])
        self.inside([1, 255, 3], [[0] + [7] * 1024, coded_block([0] * 1024)])

    def test_the_block_that_the_others_are_made_from(self):
        bits = coded_bits(20, STEPS, symbols({0: 1, 261: 1}), distances({0: 1}))
        self.assertEqual(row_of([block(bits)], 20), pack([0] * 20))

    def codes(self, told, far, size=20, steps=STEPS):
        lengths = symbols(told)
        words = {symbol: "0" for symbol in range(265)}
        words.update(codewords(lengths))
        far_words = {kind: "0" for kind in range(11)}
        far_words.update(codewords(distances(far)))
        return block(told_bits(size, lengths + distances(far), step_bits(steps, words, far_words)))

    def test_lengths_that_make_no_whole_code(self):
        for told in ({0: 2, 261: 1}, {0: 2, 261: 2}, {0: 15, 261: 15}, {0: 1, 5: 1, 261: 1}, {0: 1, 5: 15, 261: 1},
                     {0: 2, 1: 2, 261: 2}, {0: 1, 1: 2, 261: 3}, {symbol: 8 for symbol in range(265)}):
            self.inside(self.codes(told, {0: 1}))
        for far in ({0: 2}, {0: 15}, {0: 1, 1: 2}, {0: 1, 1: 1, 2: 1}, {0: 1, 1: 2, 2: 3}, {10: 3}):
            self.inside(self.codes({0: 1, 261: 1}, far))
            # Also where no match comes at all.
            self.inside(self.codes({0: 1}, far, 3, [(0, 0)] * 3))
        for length in range(2, 16):
            self.inside(self.codes({0: length}, {}, 3, [(0, 0)] * 3))

    def test_no_symbol_at_all(self):
        self.inside(block(told_bits(20, [0] * 276)))
        self.inside(block(told_bits(20, [0] * 265 + distances({0: 1}))))
        self.inside(block(told_bits(1, [0] * 276, "0" * 30)))

    def test_a_match_symbol_without_a_distance_class(self):
        for symbol in (256, 261, 264):
            self.inside(self.codes({0: 1, symbol: 1}, {}, 3, [(0, 0)] * 3))
        # A letter's symbol needs none.
        row = row_of([self.codes({0: 1, 255: 1}, {}, 3, [(0, 0)] * 3)], 3)
        self.assertEqual(call(1, row), unpacked([0] * 3))

    def test_a_distance_before_the_block(self):
        for steps in ([(20, 1)], [(0, 0), (19, 2)], [(0, 0), (0, 0), (18, 3)]):
            kind = len(bin(steps[-1][1] - 1)) - 2 if steps[-1][1] > 1 else 0
            self.inside(self.codes({0: 1, 261: 1}, {kind: 1}, 20, steps))
        # Nor does the block ahead count.
        self.inside(self.codes({0: 1, 261: 1}, {1: 1}, 20, [(0, 0), (19, 2)]), [[0] + [7] * 1024])
        self.inside(self.codes({261: 1}, {0: 1}, 20, [(20, 1)]), [coded_block([0] * 1024)])
        # The farthest that there is is let.
        row = row_of([self.codes({0: 1, 261: 1}, {1: 1}, 21, [(0, 0), (0, 0), (19, 2)])], 21)
        self.assertEqual(call(1, row), unpacked([0] * 21))

    def test_bits_that_begin_no_codeword(self):
        letter = told_bits(3, symbols({9: 1}) + [0] * 11)
        self.assertEqual(call(1, row_of([block(letter + "000")], 3)), unpacked([9] * 3))
        for steps in ("100", "010", "001", "111", "1" + "0" * 40):
            self.inside(block(letter + steps))
        match = told_bits(20, symbols({0: 1, 261: 1}) + distances({0: 1}))
        self.assertEqual(call(1, row_of([block(match + "0" + "10000" + "0")], 20)), unpacked([0] * 20))
        self.inside(block(match + "0" + "10000" + "1"))

    def test_more_bytes_than_n(self):
        for size, steps in ((19, STEPS), (2, STEPS), (1023, [(0, 0)] + [(258, 1)] * 3 + [(249, 1)])):
            symbol = 261 if steps == STEPS else 264
            self.inside(self.codes({0: 1, symbol: 1}, {0: 1}, size, steps))

    def test_bits_that_end(self):
        whole = coded_block([0] * 20)
        for size in range(3, len(whole)):
            self.inside(whole[:size])
        # The last three bits of the last byte are taken as letters first.
        for size in (24, 1024):
            self.inside(self.codes({0: 1, 261: 1}, {0: 1}, size, STEPS))

    def test_bits_behind(self):
        whole = coded_bits(20, STEPS, symbols({0: 1, 261: 1}), distances({0: 1}))
        self.assertEqual(len(whole) % 8, 5)
        for behind in ("1", "01", "001", "100", "111", "000" + "0" * 8, "000" + "1" * 8, "000" + "0" * 80):
            self.inside(block(whole + behind))
        for letters in range(3, 11):
            # Each letter more takes a bit more: so the end falls on every place within a byte.
            length = 20 - letters
            symbol = 260 if length - 3 > 7 else 259
            steps = [(0, 0)] * letters + [(length, 1)]
            bits = coded_bits(20, steps, symbols({0: 1, symbol: 1}), distances({0: 1}))
            self.assertEqual(call(1, row_of([block(bits)], 20)), unpacked([0] * 20))
            self.inside(block(bits) + [0])
            if len(bits) % 8:
                self.inside(block(bits + "0" * (-len(bits) % 8 - 1) + "1"))


def run(size):
    return "0000" + low(size - 1, 8)


class Runs(Faults):
    """Runs of noughts: as many as there are, in 256s and a last one of what's left."""

    def told(self, runs, behind):
        """A block of the letter 0, three times; the lengths behind its own are as given."""
        return block(low(2, 10) + "1000" + "".join(map(run, runs)) + behind)

    def test_as_they_are_told(self):
        self.assertEqual(call(1, row_of([self.told([256, 19], "000")], 3)), unpacked([0] * 3))
        lengths = [0] * 256 + [0] * 8 + [1] + [1] + [0] * 10
        self.inside(block(told_bits(3, lengths, "0000")))

    def test_otherwise_told(self):
        for runs in ([19, 256], [1, 256, 18], [255, 20], [256, 18, 1], [256, 1, 18], [137, 138], [1] * 275):
            self.inside(self.told(runs, "000"))

    def test_behind_the_row(self):
        for runs in ([256, 20], [256, 256], [256, 19 + 200]):
            self.inside(self.told(runs, "000"))

    def test_a_run_of_just_256(self):
        # 256 noughts stand between two lengths: one run, and none of 0 behind it.
        lengths = [0] * 4 + [1] + [0] * 256 + [1] + [0] * 3 + [1] + [0] * 10
        text = [4] * 20
        bits = low(19, 10) + run(4) + "1000" + run(256) + "1000" + run(3) + "1000" + run(10)
        self.assertEqual(bits, told_bits(20, lengths))
        row = row_of([block(bits + "0" + "1" + "0000" + "0")], 20)
        self.assertEqual(call(1, row), unpacked(text))
        self.assertEqual(call(3, row), [0, 0, 0, 0, 0])
        self.assertEqual(pack(text), row)
        # 257: a run of 256 and one of 1; of 255 and 2 it's told otherwise.
        bits = low(19, 10) + run(3) + "1000" + run(256) + run(1) + "1000" + run(3) + "1000" + run(10) + "0100000"
        self.assertEqual(pack([3] * 20), row_of([block(bits)], 20))
        self.inside(block(bits.replace(run(256) + run(1), run(255) + run(2))))
        self.inside(block(bits.replace(run(256) + run(1), run(1) + run(256))))
        # 255: one run.
        bits = low(19, 10) + run(5) + "1000" + run(255) + "1000" + run(3) + "1000" + run(10) + "0100000"
        self.assertEqual(pack([5] * 20), row_of([block(bits)], 20))


class Several(Faults):
    """Of several faults the first that's met counts."""

    def test_the_first_counts(self):
        full = coded_block([0] * 1024)
        second = 4 + 4 + len(full)
        self.everywhere([0x53, 0x57, 0x5A, 0] + number(1, 4), 2, 3)
        self.everywhere(MARK + number(1, 4) + [9], 3, 4)
        self.everywhere(row_of([[9, 1], [9, 1]], 7) + [1], 2, 8)
        self.everywhere(row_of([[0, 1], [9, 1]], 7) + [1], 3, 8)
        self.everywhere(row_of([full, [9, 1], [0]], 7) + [1], 2, second + 4)
        self.everywhere(row_of([full, [0, 1], [1, 1]], 7) + [1], 3, second + 4)
        self.everywhere(row_of([full, [0, 1]], 7) + [1], 3, second + 4 + 2 + 4)

    def test_bits_ahead_of_what_comes_behind(self):
        # The first block's bits are faulty, and something behind it too.
        wrong = [1, 255, 3, 0]
        for row, kind, place in ((row_of([wrong, [9, 1]], 0), 2, 16), (row_of([wrong], 7), 3, 16),
                                 (row_of([wrong, [0, 1]], 1025) + [0], 4, 30), (row_of([wrong], 1024)[:-1], 1, 23)):
            for numbers in ((1,), (2, 0, 1), (2, 1023, 1), (2, 0, HIGHEST), (3,)):
                self.assertEqual(call(*numbers, row), fault(5, 8))
            for numbers in ((2, 0, 0), (2, 1024, 1), (2, 1024, HIGHEST), (2, HIGHEST, HIGHEST), (4,)):
                self.assertEqual(call(*numbers, row), fault(kind, place))

    def test_bits_of_a_short_block_ahead_of_the_count_behind_it(self):
        row = row_of([[1, 5, 0, 0], [0, 1]], 7)
        for numbers in ((1,), (2, 0, 1), (3,)):
            self.assertEqual(call(*numbers, row), fault(5, 8))
        for numbers in ((2, 6, 1), (2, 0, 0), (4,)):
            self.assertEqual(call(*numbers, row), fault(3, 8))

    def test_what_is_ahead_of_faulty_bits(self):
        row = row_of([[0] + [7] * 1024, [1, 255, 3, 0]], 2048)
        self.assertEqual(call(2, 1020, 4, row), unpacked([7] * 4))
        self.assertEqual(call(2, 1020, 5, row), fault(5, 8 + 1025 + 4))
        self.assertEqual(call(2, 2049, 5, row), [-1, 0, 0, 0, 0])


class Changed(unittest.TestCase):
    """Packed rows with bytes changed, put in or left out, against the reading told over again."""

    def same(self, row, start, n):
        try:
            size, blocks, part = reference_reading.read(row, 0, HIGHEST)
            unpack = [size, size, *part, 0, 0, 0]
            judge = [0 if packed(part) == row else -9, 0, 0, 0, 0]
        except reference_reading.Off as off:
            unpack = judge = fault(*off.args)
        self.assertEqual(call(1, row), unpack)
        self.assertEqual(call(3, row), judge)
        try:
            size, blocks, part = reference_reading.read(row, start, n)
            at = [-1, 0, 0, 0, 0] if start > size else [len(part), len(part), *part, 0, 0, 0]
        except reference_reading.Off as off:
            at = fault(*off.args)
        self.assertEqual(call(2, start, n, row), at)
        try:
            size, blocks, part = reference_reading.read(row, 0, 0)
            told = [0, 0, 2, size, blocks, 0, 0]
        except reference_reading.Off as off:
            told = fault(*off.args)
        self.assertEqual(call(4, row), told)

    def test_changed_rows(self):
        source = random.Random(7)
        texts = [[], [3], [1, 2, 3] * 30, [0] * 1100, [source.randrange(3) for _ in range(200)],
                 [7] * 1024 + [source.randrange(2) for _ in range(60)], [6] * 2048]
        for text in texts:
            good = pack(text)
            for _ in range(150):
                row = list(good)
                for _ in range(source.choice([1, 1, 1, 2, 3])):
                    place = source.randrange(len(row))
                    how = source.randrange(5)
                    if how == 0:
                        row.insert(place, source.choice([0, 1, 255, source.randrange(256)]))
                    elif how == 1 and len(row) > 1:
                        row.pop(place)
                    else:
                        row[place] ^= source.choice([1 << source.randrange(8), source.randrange(256)])
                start = source.choice([0, source.randrange(len(text) + 3), 1023, 1024])
                self.same(row, start, source.choice([0, 1, 2, 1024, HIGHEST]))

    def test_each_bit_of_a_coded_block_changed(self):
        good = pack([1, 2] * 20)
        for place in range(9, len(good) - 12):
            for bit in range(8):
                row = list(good)
                row[place] ^= 1 << bit
                self.same(row, 0, 1)


if __name__ == "__main__":
    unittest.main()
