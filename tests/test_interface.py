"""The interface: how calls stand in the list, and answers in what's given back."""

import unittest

from onepacking.squeeze import answers

ROW = [0x53, 0x57, 0x5A, 0x31, 2, 0, 0, 0, 0, 9, 0, 0, 0, 0, 1, 0, 0, 0, 0, 0, 0, 0]
HIGHEST = 18446744073709551615


MARK = ROW[:4]


class Unchanging(list):
    """A list that can't be changed, not for a while either."""

    def refuse(self, *rest):
        raise AssertionError("what is handed in is changed")

    append = clear = extend = insert = pop = remove = reverse = sort = refuse
    __setitem__ = __delitem__ = __iadd__ = __imul__ = refuse


class Answers(unittest.TestCase):
    def test_no_calls(self):
        self.assertEqual(answers([]), [])

    def test_each_call_by_itself(self):
        self.assertEqual(answers([0, 1, 9]), [27, 22, 22] + ROW + [0, 0, 0])
        self.assertEqual(answers([1, 22] + ROW), [6, 1, 1, 9, 0, 0, 0])
        self.assertEqual(answers([2, 0, 1, 22] + ROW), [6, 1, 1, 9, 0, 0, 0])
        self.assertEqual(answers([2, 1, 1, 22] + ROW), [5, 0, 0, 0, 0, 0])
        self.assertEqual(answers([3, 22] + ROW), [5, 0, 0, 0, 0, 0])
        self.assertEqual(answers([4, 22] + ROW), [7, 0, 0, 2, 1, 1, 0, 0])
        self.assertEqual(answers([5, 2, 9, 8]), [9, 2, 0, 4, 0, 9, 0, 8, 0, 0])
        self.assertEqual(answers([5, 6, 7, 7, 7, 7, 7, 7]), [9, 2, 0, 4, 0, 7, 5, 1, 0, 0])
        self.assertEqual(answers([6, 4, 9, 0, 1, 2]), [9, 0, 4, 1, 0, 2, 2, 0, 0, 0])
        self.assertEqual(answers([7, 0]), [5, 0, 0, 0, 0, 0])
        self.assertEqual(answers([7, 3, 8, 3, 1, 9, 9, 3]),
                         [5, 0, 0, 0, 0, 0, 9, 4, 4] + MARK + [0, 0, 0, 23, 18, 18] + ROW[4:] + [0, 0, 0])

    def test_refusals(self):
        self.assertEqual(answers([2, 2, 0, 22] + ROW), [5, -1, 0, 0, 0, 0])
        self.assertEqual(answers([1, 0]), [5, -6, 0, 0, 1, 0])
        self.assertEqual(answers([3, 3] + ROW[:3]), [5, -6, 0, 0, 1, 3])
        stored = ROW[:4] + [12, 0, 0, 0, 0] + [7] * 11 + [0, 0, 0, 0, 11, 0, 0, 0, 0, 0, 0, 0]
        self.assertEqual(answers([3, len(stored)] + stored), [5, -9, 0, 0, 0, 0])
        self.assertEqual(answers([5, 1025] + [0] * 1025), [5, -2, 0, 0, 0, 0])
        self.assertEqual(answers([6, 266] + [0] * 266), [5, -2, 0, 0, 0, 0])
        self.assertEqual(answers([6, 1, HIGHEST]), [5, -1, 0, 0, 0, 0])
        self.assertEqual(answers([7, HIGHEST]), [5, -1, 0, 0, 0, 0])
        self.assertEqual(answers([8, HIGHEST, 0]), [5, -1, 0, 0, 0, 0])
        self.assertEqual(answers([9, HIGHEST]), [5, -1, 0, 0, 0, 0])
        self.assertEqual(answers([8, 0, 1, 7]), [5, -3, 0, 0, 0, 0])
        self.assertEqual(answers([9, 0]), [5, -3, 0, 0, 0, 0])

    def test_rows_without_bytes(self):
        self.assertEqual(answers([0, 0])[:3], [21, 16, 16])
        for numbers in ([1, 0], [2, 5, 5, 0], [3, 0], [4, 0]):
            self.assertEqual(answers(numbers), [5, -6, 0, 0, 1, 0])
        self.assertEqual(answers([5, 0]), [5, 0, 0, 0, 0, 0])
        self.assertEqual(answers([6, 0]), [5, 0, 0, 0, 0, 0])
        self.assertEqual(answers([7, 1, 8, 1, 0, 8, 1, 0])[6:], [9, 4, 4] + MARK + [0, 0, 0, 5, 0, 0, 0, 0, 0])

    def test_calls_one_behind_another(self):
        calls = [[0, 1, 9], [2, HIGHEST, HIGHEST, 22] + ROW, [1, 2, 1, 1], [4, 22] + ROW, [2, 0, HIGHEST, 22] + ROW,
                 [3, 22] + ROW, [0, 0], [1, 22] + ROW, [5, 3, 1, 2, 1], [6, 2, 7, 7], [9, 1], [7, 4], [8, 0, 1, 9],
                 [5, 0], [6, 0]]
        together = [number for call in calls for number in call]
        self.assertEqual(answers(together), [number for call in calls for number in answers(call)])
        self.assertEqual(answers(together + together), answers(together) * 2)

    def test_three_hundred_calls(self):
        self.assertEqual(answers(([3, 22] + ROW) * 300), [5, 0, 0, 0, 0, 0] * 300)

    def test_what_is_handed_in_stays(self):
        calls = [0, 3, 1, 2, 3, 1, 22] + ROW + [2, 0, 5, 22] + ROW + [3, 22] + ROW + [4, 22] + ROW
        copy = list(calls)
        given = answers(calls)
        self.assertEqual(calls, copy)
        given.append(1)
        given[0] = 77
        self.assertEqual(calls, copy)
        self.assertEqual(answers(calls), answers(copy))

    def test_what_is_handed_in_is_not_changed_for_a_while_either(self):
        calls = [0, 3, 1, 2, 3, 1, 22] + ROW + [2, 0, 5, 22] + ROW + [3, 22] + ROW + [4, 22] + ROW
        calls += [5, 6, 1, 1, 1, 1, 1, 1, 6, 3, 2, 0, 1, 7, 0, 8, 0, 1030] + [5] * 1030 + [9, 0, 9, 0]
        self.assertEqual(answers(Unchanging(calls)), answers(calls))

    def test_kinds(self):
        given = answers([0, 30] + [5] * 30 + [3, 22] + ROW + [4, 22] + ROW + [1, 22] + ROW + [1, 1, 1])
        given += answers([5, 9] + [5] * 9 + [6, 3, 9, 0, 4, 7, 2, 8, 2, 2, 4, 4, 9, 2, 9, 2])
        self.assertIs(type(given), list)
        self.assertTrue(all(type(number) is int for number in given))


if __name__ == "__main__":
    unittest.main()
