"""The interface: how calls stand in the list and what is given back."""

import unittest

from framekeep.desk import answers


class Desk(unittest.TestCase):
    def test_what_is_given_back(self):
        calls = [1, 2048, 2, 2, 77, 1, 3, 10, 20, 30, 3, 4, 1, 5, 0, 5, 108, 101, 110, 61, 49, 6, 0,
                 7, 1, 4, 0, 1, 8, 0, 8, 1, 8, 1]
        self.assertEqual(answers(calls), [1, 0, 1, 1, 7, 0, 1, 26, 1, 0, 0, 2, 6, 2, 77, 1, 3, 10, 20,
                                          1, 4, 9, 4, 1, 0, 0, 1, 4, 0, 8, 0, 1, 2, 1, 0, 1, -2])

    def test_what_is_given_back_of_the_later_calls(self):
        calls = [1, 2048, 1, 2, 77, 1, 2, 65, 66, 7, 2, 4, 0, 1, 8, 0, 9, 2, 10, 2, 1, 5, 11, 2, 1, 1, 12, 2, 13, 1, 14,
                 15, 4, 67, 65, 80, 84, 11, 2, 1, 1, 9, -1]
        line = list(b"0000  41" + b" " * 45 + b"  A\n")
        file = list(b"CAPT") + [0] * 7 + [1] + [0] * 7 + [77, 1, 0, 2, 0, 1, 65]
        self.assertEqual(answers(calls), [1, 0, 1, 1, 1, 2, 1, 0, 1, 1, 2, 1, 1, 5, 1, 2, 1, 1, 77, 58, 57] + line +
                         [27, 26] + file + [1, 0, 1, 0, 1, 0])

    def test_empty_rows(self):
        self.assertEqual(answers([1, 2048, 1, 2, 0, 0, 0, 5, 0, 0, 7, 0, 0, 10, 0, 0, 15, 0, 3]),
                         [1, 0, 1, -1, 1, -10, 1, -10, 1, -1, 1, -3, 7, 0, 0, 0, 0, 0, 0, 1])

    def test_what_is_handed_in_is_not_changed(self):
        calls = [1, 2048, 1, 2, 5, 0, 2, 8, 9, 7, 0, 4, 0, 1, 8, 0, 4, 1, 9, 0, 10, 0, 2, 3, 4, 11, 0, 1, 1, 12, 0,
                 13, 1, 14, 15, 4, 67, 65, 80, 84, 8, 0]
        before = list(calls)
        answers(calls)
        self.assertEqual(calls, before)

    def test_nothing_is_kept_from_one_time_to_the_next(self):
        first = answers([1, 2048, 1, 2, 5, 0, 1, 8, 7, 0, 4, 0, 0, 8, 0, 9, 0])
        self.assertEqual(first, [1, 0, 1, 1, 1, 2, 1, 0])
        self.assertEqual(answers([3, 4, 1, 6, 0]), [7, 0, 0, 0, 0, 0, 0, 1, 1, -2, 1, -2])
        self.assertEqual(answers([1, 2048, 1, 2, 5, 0, 1, 8]), [1, 0, 1, 1])
        self.assertEqual(answers([14]), [5, 4, 67, 65, 80, 84])

    def test_what_is_given_back_is_a_list_of_whole_numbers(self):
        told = answers([1, 2048, 1, 2, 5, 0, 1, 8, 5, 0, 3, 49, 61, 49, 6, 0, 3, 4, 1, 9, 0, 10, 0, 1, 5, 11, 0, 1, 5,
                        12, 0, 13, 1, 14, 15, 4, 67, 65, 80, 84])
        self.assertIs(type(told), list)
        self.assertEqual({type(number) for number in told}, {int})

    def test_300_calls(self):
        told = answers([1, 16777216, 1518] + [2, 9, 1, 2, 3, 4] * 299)
        self.assertEqual(told, [1, 0] + [number for place in range(1, 300) for number in (1, place)])


if __name__ == "__main__":
    unittest.main()
