"""Texts fed in pieces: the states, what's given when, and that it's the same row in whatever pieces."""

import random
import unittest

import reference
from onepacking.squeeze import answers
from reference import MARK, answered, number, pack
from texts import TEXTS, copies, noise, sentence

HIGHEST = 18446744073709551615
BEGUN = [0, 0, 0, 0, 0]
NO_STATE = [-1, 0, 0, 0, 0]
TOO_LONG = [-2, 0, 0, 0, 0]
NOT_BEGUN = [-3, 0, 0, 0, 0]
END = [0] * 4


def begin(state):
    return [7, state]


def feed(state, text):
    return [8, state, len(text), *text]


def end(state):
    return [9, state]


def gives(octets):
    return [len(octets), len(octets), *octets, 0, 0, 0]


def octets_of(answer):
    octets = answer[2:2 + answer[1]]
    assert answer == gives(octets)
    return octets


def block(text):
    """The text's block: its count, its kind and what follows."""
    told = list(reference.block_of(tuple(text)))
    return number(len(told), 4) + told


def cut(text, sizes):
    """The text in pieces of the sizes, by turns."""
    pieces = []
    while text:
        size = sizes[len(pieces) % len(sizes)]
        pieces.append(text[:size])
        text = text[size:]
    return pieces


def fed(pieces, state=0):
    """The row that comes when the pieces are fed."""
    told = answered(begin(state), *[feed(state, piece) for piece in pieces], end(state))
    assert told[0] == BEGUN
    return sum(map(octets_of, told[1:]), [])


class Pieces(unittest.TestCase):
    """Fed in whatever pieces it's the same row."""

    def test_pieces_of_one_size(self):
        for text in TEXTS:
            row = pack(text)
            for size in (1, 2, 7, 100, 511, 1023, 1024, 1025, 3000):
                if len(text) <= 290 * size:
                    self.assertEqual(fed(cut(text, [size])), row)

    def test_pieces_of_many_sizes(self):
        source = random.Random(8)
        for text in TEXTS:
            row = pack(text)
            for _ in range(4):
                sizes = [source.choice([0, 1, 5, 90, 900, 1024, source.randrange(2500)]) for _ in range(20)]
                self.assertEqual(fed(cut(text, sizes + [700])), row)

    def test_two_pieces_cut_at_every_place(self):
        text = sentence(70)
        row = pack(text)
        for place in range(71):
            self.assertEqual(fed([text[:place], text[place:]]), row)
        text = sentence(1030)
        row = pack(text)
        for place in range(1018, 1031):
            self.assertEqual(fed([text[:place], text[place:]]), row)

    def test_to_each_state(self):
        text = copies(1500, 6)
        for state in range(4):
            self.assertEqual(fed(cut(text, [400]), state), pack(text))

    def test_as_long_as_may_be_handed_in(self):
        text = noise(15000, 256, 4)
        self.assertEqual(fed(cut(text, [1, 60, 120])), pack(text))
        text = copies(15980, 5)
        self.assertEqual(fed([text]), pack(text))

    def test_to_several_states_by_turns(self):
        texts = [sentence(2500), copies(1024, 3), noise(1900, 2, 4), []]
        pieces = [cut(text, [size]) for text, size in zip(texts, (90, 50, 1000, 1))]
        calls = [begin(state) for state in range(4)]
        states = [0, 1, 2, 3]
        for turn in range(max(map(len, pieces))):
            for state in range(4):
                if turn < len(pieces[state]):
                    calls.append(feed(state, pieces[state][turn]))
                    states.append(state)
        for state in (2, 0, 3, 1):
            calls.append(end(state))
            states.append(state)
        told = answered(*calls)
        for state in range(4):
            given = [octets_of(one) for one, which in zip(told, states) if which == state][1:]
            self.assertEqual(sum(given, []), pack(texts[state]))


class WhatIsGiven(unittest.TestCase):
    """Of the row what's known, and isn't given yet."""

    def setUp(self):
        self.text = sentence(1024) + noise(1024, 256, 1) + copies(1024, 2) + [1, 2]
        self.blocks = [block(self.text[k:k + 1024]) for k in range(0, 3072, 1024)]

    def given(self, *sizes):
        """What each feed of so many bytes gives, and the end."""
        place = 0
        calls = [begin(1)]
        for size in sizes:
            calls.append(feed(1, self.text[place:place + size]))
            place += size
        told = [octets_of(one) for one in answered(*calls, end(1))[1:]]
        self.assertEqual(sum(told, []), pack(self.text[:place]))
        return told

    def test_the_end_without_a_feed(self):
        self.assertEqual(answered(begin(0), end(0)), [BEGUN, gives(MARK + END + [0] * 8)])

    def test_a_feed_of_no_bytes(self):
        self.assertEqual(self.given(0), [MARK, END + [0] * 8])
        self.assertEqual(self.given(0, 0, 0), [MARK, [], [], END + [0] * 8])
        last = block(self.text[:5]) + END + number(5, 8)
        self.assertEqual(self.given(0, 5), [MARK, [], last])
        self.assertEqual(self.given(5, 0), [MARK, [], last])
        self.assertEqual(self.given(0, 2, 0, 3, 0), [MARK, [], [], [], [], last])

    def test_the_mark_is_given_once(self):
        self.assertEqual(self.given(1), [MARK, block(self.text[:1]) + END + number(1, 8)])
        self.assertEqual(self.given(1, 1, 1), [MARK, [], [], block(self.text[:3]) + END + number(3, 8)])
        self.assertEqual([one[:4] == MARK for one in self.given(1030, 1030, 600)], [True, False, False, False])

    def test_a_block_waits_till_another_byte_comes(self):
        end_1023 = block(self.text[:1023]) + END + number(1023, 8)
        end_1024 = self.blocks[0] + END + number(1024, 8)
        end_1025 = block(self.text[1024:1025]) + END + number(1025, 8)
        end_2048 = self.blocks[1] + END + number(2048, 8)
        end_2049 = block(self.text[2048:2049]) + END + number(2049, 8)
        self.assertEqual(self.given(1023), [MARK, end_1023])
        self.assertEqual(self.given(1024), [MARK, end_1024])
        self.assertEqual(self.given(1025), [MARK + self.blocks[0], end_1025])
        self.assertEqual(self.given(2048), [MARK + self.blocks[0], end_2048])
        self.assertEqual(self.given(2049), [MARK + self.blocks[0] + self.blocks[1], end_2049])
        self.assertEqual(self.given(1023, 1), [MARK, [], end_1024])
        self.assertEqual(self.given(1023, 1, 0), [MARK, [], [], end_1024])
        self.assertEqual(self.given(1023, 1, 0, 1), [MARK, [], [], self.blocks[0], end_1025])
        self.assertEqual(self.given(1023, 2), [MARK, self.blocks[0], end_1025])
        self.assertEqual(self.given(1024, 1024), [MARK, self.blocks[0], end_2048])
        self.assertEqual(self.given(1024, 1, 1023), [MARK, self.blocks[0], [], end_2048])
        self.assertEqual(self.given(1, 1024, 1023, 0, 1), [MARK, self.blocks[0], [], [], self.blocks[1], end_2049])
        self.assertEqual(self.given(1000, 1048, 1), [MARK, self.blocks[0], self.blocks[1], end_2049])

    def test_several_blocks_at_once(self):
        last = block(self.text[3072:3073]) + END + number(3073, 8)
        self.assertEqual(self.given(3073), [MARK + sum(self.blocks, []), last])
        self.assertEqual(self.given(0, 3073), [MARK, sum(self.blocks, []), last])
        self.assertEqual(self.given(500, 2000, 573), [MARK, sum(self.blocks[:2], []), self.blocks[2], last])
        last = self.blocks[2] + END + number(3072, 8)
        self.assertEqual(self.given(3072), [MARK + sum(self.blocks[:2], []), last])
        self.assertEqual(self.given(10, 3062), [MARK, sum(self.blocks[:2], []), last])

    def test_blocks_that_are_the_same(self):
        same = block([7] * 1024)
        told = answered(begin(0), feed(0, [7] * 2050), feed(0, [7] * 2048), end(0))
        self.assertEqual(told[1:], [gives(MARK + same + same), gives(same + same),
                                    gives(block([7, 7]) + END + number(4098, 8))])


class Begun(unittest.TestCase):
    def test_none_is_begun_at_first(self):
        for state in range(4):
            self.assertEqual(answered(feed(state, [1]), end(state), feed(state, [])), [NOT_BEGUN] * 3)

    def test_just_the_one_is_begun(self):
        for state in range(4):
            told = answered(begin(state), *[feed(one, [5]) for one in range(4)])
            self.assertEqual(told[1:], [gives(MARK) if one == state else NOT_BEGUN for one in range(4)])

    def test_a_state_that_is_begun_already(self):
        row = pack([9])
        for ahead in ([], [feed(0, [])], [feed(0, [1, 2])], [feed(0, [3] * 1030)], [feed(0, [3] * 1024), feed(0, [])]):
            told = answered(begin(0), *ahead, begin(0), feed(0, [9]), end(0))
            self.assertEqual(told[-3:], [BEGUN, gives(MARK), gives(row[4:])])
            told = answered(begin(0), *ahead, begin(0), end(0))
            self.assertEqual(told[-2:], [BEGUN, gives(pack([]))])

    def test_begun_again_behind_the_end(self):
        told = answered(begin(2), feed(2, [1]), end(2), begin(2), feed(2, [4, 4]), end(2), begin(2), end(2))
        self.assertEqual(told, [BEGUN, gives(MARK), gives(pack([1])[4:]), BEGUN, gives(MARK),
                                gives(pack([4, 4])[4:]), BEGUN, gives(pack([]))])

    def test_another_state_begun_changes_none(self):
        told = answered(begin(0), feed(0, [1]), begin(1), feed(0, [2]), begin(1), end(1), feed(0, [3]), end(0))
        self.assertEqual(told[3], gives([]))
        self.assertEqual(told[-2:], [gives([]), gives(pack([1, 2, 3])[4:])])

    def test_ended(self):
        told = answered(begin(3), feed(3, [1]), end(3), end(3), feed(3, [1]), feed(3, []), end(3))
        self.assertEqual(told[3:], [NOT_BEGUN] * 4)
        told = answered(begin(3), end(3), end(3), begin(3), end(3), end(3))
        self.assertEqual(told[1:], [gives(pack([])), NOT_BEGUN, BEGUN, gives(pack([])), NOT_BEGUN])

    def test_one_ended_the_others_not(self):
        told = answered(begin(0), begin(1), end(0), feed(1, [1]), end(1), feed(0, []))
        self.assertEqual(told[2:], [gives(pack([])), gives(MARK), gives(pack([1])[4:]), NOT_BEGUN])


class Refused(unittest.TestCase):
    def test_a_state_above_three(self):
        for state in (4, 5, 256, 2 ** 32, 2 ** 63, HIGHEST):
            told = answered(begin(state), feed(state, [1]), feed(state, []), end(state), begin(state), end(state))
            self.assertEqual(told, [NO_STATE] * 6)

    def test_a_refused_begin_begins_none(self):
        calls = [begin(state) for state in (4, 5, 6, 7, 256, HIGHEST)]
        calls += [end(state) for state in range(4)]
        self.assertEqual(answered(*calls), [NO_STATE] * 6 + [NOT_BEGUN] * 4)

    def test_the_first_in_the_told_order_counts(self):
        too_long = [0] * 65537
        for state in (4, HIGHEST):
            self.assertEqual(answered(feed(state, too_long)), [NO_STATE])
            self.assertEqual(answered(begin(0), end(0), feed(state, too_long)), [BEGUN, gives(pack([])), NO_STATE])
        self.assertEqual(answered(feed(0, too_long)), [NOT_BEGUN])
        self.assertEqual(answered(begin(0), end(0), feed(0, too_long))[-1], NOT_BEGUN)
        self.assertEqual(answered(begin(0), feed(0, too_long)), [BEGUN, TOO_LONG])

    def test_more_than_65536_bytes(self):
        whole = [3] * 65536
        row = pack(whole)
        same = block([3] * 1024)
        self.assertEqual(row, MARK + same * 64 + END + number(65536, 8))
        told = answered(begin(0), feed(0, whole), feed(0, [3]), feed(0, []), feed(0, [3] * 70000), end(0))
        self.assertEqual(told, [BEGUN, gives(MARK + same * 63), TOO_LONG, gives([]), TOO_LONG,
                                gives(row[-len(same) - 12:])])
        told = answered(begin(0), feed(0, whole[:-1]), feed(0, [3, 3]), feed(0, [3]), feed(0, [3]), end(0))
        self.assertEqual(told[2:5], [TOO_LONG, gives([]), TOO_LONG])
        self.assertEqual(octets_of(told[1]) + octets_of(told[5]), row)

    def test_too_much_at_once_is_not_fed(self):
        told = answered(begin(0), feed(0, [1] * 65537), end(0))
        self.assertEqual(told, [BEGUN, TOO_LONG, gives(pack([]))])
        told = answered(begin(0), feed(0, [8]), feed(0, [1] * 65536), feed(0, [9]), end(0))
        self.assertEqual(told, [BEGUN, gives(MARK), TOO_LONG, gives([]), gives(pack([8, 9])[4:])])

    def test_begun_again_there_is_room_again(self):
        told = answered(begin(0), feed(0, [1] * 65536), begin(0), feed(0, [1] * 65536), end(0), begin(0),
                        feed(0, [1] * 65536))
        self.assertEqual(told[3], told[1])
        self.assertEqual(told[6], told[1])
        told = answered(begin(0), begin(1), feed(0, [1] * 65536), feed(1, [1] * 65536), feed(1, [1]))
        self.assertEqual(told[3:], [told[2], TOO_LONG])

    def test_refused_calls_change_nothing(self):
        wrong = [begin(4), begin(HIGHEST), feed(4, [1]), feed(5, []), feed(1, [1]), feed(3, []), end(4), end(1), end(3),
                 end(HIGHEST), feed(HIGHEST, [2]), [5, 1025] + [0] * 1025, [6, 1, 32769], [1, 0], [3, 0], [2, 1, 1, 0],
                 [4, 0], feed(0, [5] * 65537), feed(2, [5] * 65537)]
        right = [begin(0), begin(2), feed(0, sentence(600)), feed(2, [1]), feed(0, sentence(600)), feed(2, []), end(2),
                 end(0)]
        alone = answered(*right)
        for place in range(2, 7):
            told = answered(*right[:place], *wrong, *right[place:])
            self.assertEqual(told[:place] + told[place + len(wrong):], alone)
            self.assertTrue(all(one[0] < 0 and one[1:3] == [0, 0] for one in told[place:place + len(wrong)]))


class OneList(unittest.TestCase):
    """The states are kept from call to call within a list, and nothing from one list to the next."""

    def test_other_calls_between(self):
        text = copies(1100, 2)
        row = pack([3] * 30)
        others = [[0, 2, 1, 2], [1, len(row)] + row, [2, 3, 9, len(row)] + row, [3, len(row)] + row,
                  [4, len(row)] + row, [5, 4, 1, 1, 1, 1], [6, 3, 1, 2, 3]]
        alone = answered(*others)
        told = answered(begin(0), *others, feed(0, text), *others, end(0), *others)
        self.assertEqual(told[1:8], alone)
        self.assertEqual(told[9:16], alone)
        self.assertEqual(told[17:], alone)
        self.assertEqual(octets_of(told[8]) + octets_of(told[16]), pack(text))

    def test_nothing_is_kept_to_the_next_list(self):
        answered(*[begin(state) for state in range(4)], feed(0, [1]))
        self.assertEqual(answered(feed(0, [2]), feed(1, []), end(0), end(3)), [NOT_BEGUN] * 4)
        answered(begin(0), feed(0, [1] * 1030))
        self.assertEqual(answered(begin(0), feed(0, [2]), end(0)), [BEGUN, gives(MARK), gives(pack([2])[4:])])

    def test_three_hundred_calls(self):
        told = answered(begin(0), *[feed(0, [k % 7] * (k % 50)) for k in range(298)], end(0))
        text = [k % 7 for k in range(298) for _ in range(k % 50)]
        self.assertEqual(sum(map(octets_of, told[1:]), []), pack(text))
        told = answered(*[call for k in range(100) for call in (begin(k % 4), feed(k % 4, [k]), end(k % 4))])
        self.assertEqual(told, [one for k in range(100) for one in (BEGUN, gives(MARK), gives(pack([k])[4:]))])

    def test_what_is_handed_in_stays(self):
        handed = begin(0) + feed(0, [5] * 1500) + feed(0, [6]) + end(0) + begin(0) + feed(0, [7])
        copy = list(handed)
        given = answers(handed)
        self.assertEqual(handed, copy)
        self.assertTrue(all(type(one) is int for one in given))
        before = list(given)
        given[:] = [1]
        self.assertEqual(answers(handed), before)
        handed[7] = 99
        self.assertNotEqual(answers(handed), before)


class Model:
    """The states told over again: what's fed to each, and how much of its row is given."""

    def __init__(self):
        self.texts = {}
        self.given = {}

    def known(self, text):
        """The row as far as it's known: each block behind which there's another byte."""
        return MARK + sum([block(text[k:k + 1024]) for k in range(0, len(text) - 1024, 1024)], [])

    def rest(self, state, row):
        rest = row[self.given[state]:]
        self.given[state] = len(row)
        return gives(rest)

    def answer(self, call):
        state = call[1]
        if state > 3:
            return NO_STATE
        if call[0] == 7:
            self.texts[state] = []
            self.given[state] = 0
            return BEGUN
        if state not in self.texts:
            return NOT_BEGUN
        if call[0] == 8:
            if len(self.texts[state]) + call[2] > 65536:
                return TOO_LONG
            self.texts[state] = self.texts[state] + call[3:]
            return self.rest(state, self.known(self.texts[state]))
        return self.rest(state, reference.packed(self.texts.pop(state)))


class Walks(unittest.TestCase):
    """Calls by chance on many states, against the states told over again."""

    def walk(self, source, sizes):
        calls = []
        for _ in range(source.randrange(2, 60)):
            state = source.choice([0, 0, 0, 1, 1, 2, 3, 4, HIGHEST])
            kind = source.choice([7, 8, 8, 8, 8, 8, 8, 9])
            if kind == 8:
                calls.append(feed(state, [source.randrange(2)] * source.choice(sizes)))
            else:
                calls.append([kind, state])
        calls = [begin(0), begin(1)] + calls + [end(state) for state in range(4)]
        model = Model()
        self.assertEqual(answered(*calls), [model.answer(call) for call in calls])

    def test_walks(self):
        source = random.Random(21)
        for _ in range(60):
            self.walk(source, (0, 1, 2, 5))
        for _ in range(25):
            self.walk(source, (0, 1, 511, 512, 513, 1023, 1024, 1025, 2048))

    def test_long_texts(self):
        source = random.Random(22)
        for _ in range(3):
            self.walk(source, (0, 1, 1024, 20000, 32768, 65535, 65536, 65537))


if __name__ == "__main__":
    unittest.main()
