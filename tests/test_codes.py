"""The lengths of codes and the codewords."""

import itertools
import random
import unittest
from functools import lru_cache

import reference
from onepacking.codes import codewords, is_whole
from reference import call, told_lengths

HIGHEST = 18446744073709551615


def fibonacci(size):
    row = [1, 1]
    while len(row) < size:
        row.append(row[-1] + row[-2])
    return row[:size]


class Lengths(unittest.TestCase):
    def test_of_no_symbol(self):
        self.assertEqual(told_lengths([]), [])
        self.assertEqual(told_lengths([0, 0, 0]), [0, 0, 0])

    def test_of_one_symbol(self):
        self.assertEqual(told_lengths([7]), [1])
        self.assertEqual(told_lengths([0, 1000, 0]), [0, 1, 0])

    def test_of_two_symbols(self):
        self.assertEqual(told_lengths([0, 1000, 0, 1]), [0, 1, 0, 1])

    def test_of_as_often_by_the_lesser(self):
        # The symbols that come least, and of these the lesser, stand in most packages.
        self.assertEqual(told_lengths([1, 1, 1]), [2, 2, 1])
        self.assertEqual(told_lengths([2, 1, 1, 1, 1]), [2, 3, 3, 2, 2])

    def test_leaves_ahead_of_packages_of_one_weight(self):
        # Lengths of 1, 3, 3, 2 would take as many bits.
        self.assertEqual(told_lengths([2, 1, 1, 2]), [2, 2, 2, 2])
        self.assertEqual(told_lengths([1, 1, 2, 3, 5]), [4, 4, 3, 2, 1])

    def test_of_many_symbols(self):
        self.assertEqual(told_lengths([1] * 256), [8] * 256)
        self.assertEqual(told_lengths([1] * 265), reference.code_lengths([1] * 265))

    def test_at_most_fifteen(self):
        for size in (15, 16, 17, 20, 22):
            lengths = told_lengths(fibonacci(size))
            self.assertEqual(max(lengths), min(15, size - 1))
            self.assertEqual(sum(2 ** -length for length in lengths), 1)
            self.assertEqual(lengths, reference.code_lengths(fibonacci(size)))

    def test_as_told_again(self):
        source = random.Random(5)
        for _ in range(150):
            often = [source.choice([0, 0, 1, 1, 2, 3, source.randrange(1000)]) for _ in range(source.randrange(1, 266))]
            self.assertEqual(told_lengths(often), reference.code_lengths(often))

    def test_answered_as_bytes(self):
        self.assertEqual(call(6, []), [0, 0, 0, 0, 0])
        self.assertEqual(call(6, [0]), [0, 1, 0, 0, 0, 0])
        self.assertEqual(call(6, [5]), [0, 1, 1, 0, 0, 0])
        self.assertEqual(call(6, [4, 0, 1, 2]), [0, 4, 1, 0, 2, 2, 0, 0, 0])

    def test_noughts_alone(self):
        for size in (1, 2, 264, 265):
            self.assertEqual(told_lengths([0] * size), [0] * size)

    def test_one_symbol_anywhere(self):
        for size in (1, 2, 11, 265):
            for place in {0, size // 2, size - 1}:
                for times in (1, 2, 32768):
                    often = [0] * size
                    often[place] = times
                    self.assertEqual(told_lengths(often), [int(times > 0) for times in often])


def least_bits(often):
    """How many bits a whole code of at most 15 takes in sum at the least, level by level from the shortest words on."""
    times = sorted((one for one in often if one), reverse=True)
    if len(times) < 2:
        return sum(times)
    behind = [sum(times[k:]) for k in range(len(times) + 1)]

    @lru_cache(maxsize=None)
    def least(level, told, free):
        """Of so many symbols told and so many words of the level that are free: the bits from this level on."""
        if told == len(times):
            return 0 if free == 0 else float("inf")
        if level == 15 and free != len(times) - told or free > len(times) - told:
            return float("inf")
        if level == 15:
            return 0
        return min(behind[told + here] + least(level + 1, told + here, 2 * (free - here)) for here in range(free + 1))

    return behind[0] + least(1, 0, 2)


def bits_of_any_length(often):
    """How many bits a whole code takes in sum at the least if its words may be longer than 15."""
    left = sorted(times for times in often if times)
    bits = 0
    while len(left) > 1:
        both = left[0] + left[1]
        left = sorted([both] + left[2:])
        bits += both
    return bits


class LeastBits(unittest.TestCase):
    """The lengths make a whole code of at most 15 bits, and none of the same symbols takes fewer bits in sum."""

    def check(self, often):
        lengths = told_lengths(often)
        self.assertEqual([length > 0 for length in lengths], [times > 0 for times in often])
        told = [length for length in lengths if length]
        if len(told) < 2:
            self.assertEqual(told, [1] * len(told))
        else:
            self.assertEqual(sum(2 ** (15 - length) for length in told), 2 ** 15)
            self.assertLessEqual(max(told), 15)
        self.assertEqual(sum(map(int.__mul__, often, lengths)), least_bits(often))
        self.assertEqual(lengths, reference.code_lengths(often))

    def test_few_symbols(self):
        for size in range(5):
            for often in itertools.product((0, 1, 2, 3, 7), repeat=size):
                self.check(list(often))

    def test_of_all_whole_codes_of_four(self):
        codes = [one for one in itertools.product(range(1, 4), repeat=4) if sum(2 ** (3 - k) for k in one) == 8]
        self.assertEqual(len(codes), 13)
        for often in itertools.product((1, 2, 3, 5, 9), repeat=4):
            told = sum(map(int.__mul__, often, told_lengths(list(often))))
            self.assertEqual(told, min(sum(map(int.__mul__, often, one)) for one in codes))

    def test_words_that_would_be_longer(self):
        for often in (fibonacci(17), fibonacci(22), fibonacci(22)[::-1], [0, 0] + fibonacci(19) + [0],
                      [1] + [2 ** k for k in range(15)] + [32768]):
            self.check(often)
            self.assertGreater(least_bits(often), bits_of_any_length(often))
            self.assertEqual(max(told_lengths(often)), 15)

    def test_words_of_just_fifteen(self):
        often = [2 ** k for k in range(15)] + [2 ** 14]
        self.check(often)
        self.assertEqual(least_bits(often), bits_of_any_length(often))
        self.assertEqual(told_lengths([2 ** k for k in range(16)]), [15] + list(range(15, 0, -1)))

    def test_many_symbols(self):
        source = random.Random(14)
        for size in (10, 16, 17, 30, 45):
            for most in (1, 2, 9, 300, 1400):
                self.check([source.choice([0, 1, source.randrange(most + 1), most]) for _ in range(size)])
        self.check([source.choice([1, 1, 1, 2, 40 ** (k % 3)]) for k in range(40)])

    def test_as_many_as_let(self):
        source = random.Random(3)
        for often in ([1] * 265, [247] * 265, [0, 1] * 132 + [0], list(range(1, 266)), [32768] + [124] * 264,
                      fibonacci(22) + [1] * 243, [source.randrange(240) for _ in range(265)]):
            lengths = told_lengths(often)
            self.assertEqual(lengths, reference.code_lengths(often))
            self.assertEqual(sum(2 ** (15 - length) for length in lengths if length), 2 ** 15)


class Refused(unittest.TestCase):
    def test_more_than_265_numbers(self):
        for size in (266, 267, 400):
            for often in ([0] * size, [1] * size, [32769] * size, [HIGHEST] * size):
                self.assertEqual(call(6, often), [-2, 0, 0, 0, 0])
        self.assertEqual(call(6, [1] * 265)[0], 0)

    def test_a_number_above_32768(self):
        self.assertEqual(told_lengths([32768]), [1])
        self.assertEqual(told_lengths([0, 32768, 1]), [0, 1, 1])
        for times in (32769, 40000, 65536, 65537, 2 ** 32, HIGHEST):
            for often in ([times], [0, times], [times, 0, 5], [0] * 264 + [times]):
                self.assertEqual(call(6, often), [-1, 0, 0, 0, 0])

    def test_above_65536_in_sum(self):
        self.assertEqual(told_lengths([32768, 32768]), [1, 1])
        self.assertEqual(told_lengths([32768, 32767, 1]), [1, 2, 2])
        self.assertEqual(told_lengths([16384] * 4), [2] * 4)
        for often in ([32768, 32768, 1], [1, 32768, 32768], [16384] * 4 + [1], [32767, 32767, 3], [248] * 265):
            self.assertGreater(sum(often), 65536)
            self.assertEqual(call(6, often), [-1, 0, 0, 0, 0])
        self.assertEqual(call(6, [247] * 264 + [328])[0], 0)
        self.assertEqual(call(6, [247] * 264 + [329]), [-1, 0, 0, 0, 0])


class Words(unittest.TestCase):
    def test_by_length_then_by_number(self):
        self.assertEqual(codewords([2, 0, 1, 3, 3]), {2: 0b0, 0: 0b10, 3: 0b110, 4: 0b111})
        self.assertEqual(codewords([0, 1]), {1: 0})
        self.assertEqual(codewords([0, 0]), {})

    def test_whole(self):
        for lengths in ([], [0, 0], [0, 1], [1, 1], [2, 0, 1, 2], list(range(1, 16)) + [15]):
            self.assertTrue(is_whole(lengths))
        for lengths in ([2], [15], [1, 2], [1, 1, 1], [15] * 2, list(range(1, 16)), [1, 1, 15], [8] * 255,
                        [8] * 257, [8] * 265, [15] * 265, [9] * 200):
            self.assertFalse(is_whole(lengths))


if __name__ == "__main__":
    unittest.main()
