"""The lengths of codes and the codewords."""

import random
import unittest

import reference
from onepacking.codes import code_lengths, codewords, is_whole


def fibonacci(size):
    row = [1, 1]
    while len(row) < size:
        row.append(row[-1] + row[-2])
    return row[:size]


class Lengths(unittest.TestCase):
    def test_of_no_symbol(self):
        self.assertEqual(code_lengths([]), [])
        self.assertEqual(code_lengths([0, 0, 0]), [0, 0, 0])

    def test_of_one_symbol(self):
        self.assertEqual(code_lengths([7]), [1])
        self.assertEqual(code_lengths([0, 1000, 0]), [0, 1, 0])

    def test_of_two_symbols(self):
        self.assertEqual(code_lengths([0, 1000, 0, 1]), [0, 1, 0, 1])

    def test_of_as_often_by_the_lesser(self):
        # The symbols that come least, and of these the lesser, stand in most packages.
        self.assertEqual(code_lengths([1, 1, 1]), [2, 2, 1])
        self.assertEqual(code_lengths([2, 1, 1, 1, 1]), [2, 3, 3, 2, 2])

    def test_leaves_ahead_of_packages_of_one_weight(self):
        # Lengths of 1, 3, 3, 2 would take as many bits.
        self.assertEqual(code_lengths([2, 1, 1, 2]), [2, 2, 2, 2])
        self.assertEqual(code_lengths([1, 1, 2, 3, 5]), [4, 4, 3, 2, 1])

    def test_of_many_symbols(self):
        self.assertEqual(code_lengths([1] * 256), [8] * 256)
        self.assertEqual(code_lengths([1] * 265), reference.code_lengths([1] * 265))

    def test_at_most_fifteen(self):
        for size in (15, 16, 17, 20):
            lengths = code_lengths(fibonacci(size))
            self.assertEqual(max(lengths), min(15, size - 1))
            self.assertEqual(sum(2 ** -length for length in lengths), 1)
            self.assertEqual(lengths, reference.code_lengths(fibonacci(size)))

    def test_as_told_again(self):
        source = random.Random(5)
        for _ in range(150):
            often = [source.choice([0, 0, 1, 1, 2, 3, source.randrange(1000)]) for _ in range(source.randrange(1, 266))]
            self.assertEqual(code_lengths(often), reference.code_lengths(often))


class Words(unittest.TestCase):
    def test_by_length_then_by_number(self):
        self.assertEqual(codewords([2, 0, 1, 3, 3]), {2: 0b0, 0: 0b10, 3: 0b110, 4: 0b111})
        self.assertEqual(codewords([0, 1]), {1: 0})
        self.assertEqual(codewords([0, 0]), {})

    def test_whole(self):
        for lengths in ([], [0, 0], [0, 1], [1, 1], [2, 0, 1, 2], list(range(1, 16)) + [15]):
            self.assertTrue(is_whole(lengths))
        for lengths in ([2], [15], [1, 2], [1, 1, 1], [15] * 2, list(range(1, 16)), [1, 1, 15], [8] * 255,
                        [8] * 257, [8] * 265, [15] * 265, [9] * 200):
            self.assertFalse(is_whole(lengths))


if __name__ == "__main__":
    unittest.main()
