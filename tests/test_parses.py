"""The parse of a block: over the block, none cheaper, none as cheap ahead of it."""

import itertools
import random
import unittest

from reference import all_parses, call, cost, parse, told_parse
from texts import TEXTS, copies, noise

TOO_LONG = [-2, 0, 0, 0, 0]


def gone_over(steps):
    text = []
    for length, what in steps:
        if length == 0:
            text.append(what)
        for _ in range(length):
            text.append(text[-what])
    return text


class Parses(unittest.TestCase):
    def same(self, text):
        told = told_parse(text)
        self.assertEqual(gone_over(told), text)
        self.assertEqual(told, parse(text))

    def test_of_all_parses_the_first_of_the_least_cost(self):
        for size in range(1, 10):
            for letters in itertools.product((0, 1), repeat=size):
                text = list(letters)
                first = min(all_parses(text), key=lambda steps: (sum(map(cost, steps)), steps))
                self.assertEqual(told_parse(text), first)
                self.assertEqual(parse(text), first)

    def test_longer_texts(self):
        source = random.Random(11)
        for size in (12, 50, 257, 258, 259, 260, 261, 262, 300, 515, 517, 700, 1024):
            for letters in (1, 2, 3, 20):
                self.same([source.randrange(letters) for _ in range(size)])
            text = [source.randrange(4) for _ in range(8)]
            while len(text) < size:
                far = source.randrange(1, len(text) + 1)
                text += gone_over([(0, x) for x in text] + [(source.choice([3, 7, 90, 258]), far)])[len(text):]
                text += [source.randrange(4)] * source.randrange(3)
            self.same(text[:size])

    def test_patterns(self):
        self.same([0] * 1000 + list(range(24)))
        self.same(([0] * 40 + [1]) * 24)
        self.same([x for k in range(40) for x in [0] * k + [1]])
        self.same([bin(k).count("1") % 2 for k in range(1024)])

    def test_a_letter_ahead_of_a_match_as_cheap(self):
        # Wherever the second letter stands the cost is the same: it's ahead of the match.
        self.assertEqual(told_parse([5] * 5), [(0, 5), (4, 1)])
        self.assertEqual(told_parse([5] * 260), [(0, 5), (0, 5), (258, 1)])

    def test_of_matches_as_cheap_the_shorter_ahead(self):
        self.assertEqual(told_parse([5] * 517), [(0, 5), (258, 1), (258, 1)])
        self.assertEqual(told_parse([5] * 400), [(0, 5), (141, 1), (258, 1)])

    def test_of_one_length_the_less_distance(self):
        # Both distances have no further bits.
        self.assertEqual(told_parse([5] * 30)[1], (29, 1))
        # Distances 3 and 4 have one further bit each.
        self.assertEqual(told_parse([1, 2, 3] * 2), [(0, 1), (0, 2), (0, 3), (3, 3)])
        self.same([9, 9, 1, 9, 9, 1, 2, 9, 9, 1, 9])

    def test_the_nearest_of_one_length(self):
        ahead = [1, 2, 3, 4, 60, 1, 2, 3, 4, 61, 1, 2, 3, 4, 62]
        self.assertEqual(told_parse(ahead + [1, 2, 3, 4])[-1], (4, 5))

    def test_of_distances_of_one_class_the_less(self):
        # The last three bytes stand 5 and 8 before them too, both with two further bits.
        text = [1, 2, 3, 1, 2, 3, 90, 91, 1, 2, 3]
        self.assertEqual(told_parse(text), [(0, 1), (0, 2), (0, 3), (3, 3), (0, 90), (0, 91), (3, 5)])

    def test_a_letter_and_a_near_match_ahead_of_a_far_one_as_cheap(self):
        between = list(range(1, 256)) + list(range(1, 90, 2))
        text = [0] * 4 + between + [0] * 4
        far = (4, len(between) + 4)
        self.assertEqual(cost(far), cost((0, 0)) + cost((3, 1)))
        letters = [(0, letter) for letter in between]
        self.assertEqual(told_parse(text), [(0, 0), (3, 1)] + letters + [(0, 0), (3, 1)])
        # Nearer by one the far one is cheaper still where it has a further bit less.
        between = list(range(1, 252))
        text = [0] * 4 + between + [0] * 4
        letters = [(0, letter) for letter in between]
        self.assertEqual(told_parse(text), [(0, 0), (3, 1)] + letters + [(4, 255)])

    def test_no_bytes(self):
        self.assertEqual(call(5, []), [0, 0, 0, 0, 0])

    def test_one_letter(self):
        for letter in (0, 1, 255):
            self.assertEqual(call(5, [letter]), [1, 0, 2, 0, letter, 0, 0])
            self.assertEqual(told_parse([letter]), [(0, letter)])

    def test_without_repeats(self):
        for text in (list(range(256)), list(range(255, -1, -1)), [0, 0, 1, 1, 0, 1, 0, 0], [9, 9]):
            self.assertEqual(told_parse(text), [(0, letter) for letter in text])

    def test_answered_as_told(self):
        self.assertEqual(call(5, [6] * 20), [2, 0, 4, 0, 6, 19, 1, 0, 0])
        self.assertEqual(call(5, [1, 2, 3, 1, 2, 3]), [4, 0, 8, 0, 1, 0, 2, 0, 3, 3, 3, 0, 0])

    def test_blocks_of_all_texts(self):
        for text in TEXTS:
            self.same(text[:1024])


class Sizes(unittest.TestCase):
    def test_a_whole_block(self):
        for text in ([4] * 1024, noise(1024, 256, 2), copies(1024, 9)):
            told = told_parse(text)
            self.assertEqual(gone_over(told), text)
            self.assertEqual(told, parse(text))

    def test_more_than_a_block(self):
        for size in (1025, 1026, 2048, 15990):
            for text in ([4] * size, noise(size, 256, 2)):
                self.assertEqual(call(5, text), TOO_LONG)


if __name__ == "__main__":
    unittest.main()
