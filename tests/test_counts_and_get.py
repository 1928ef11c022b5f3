"""Promises 3 and 4: counts and get."""

import unittest

from tests.calls import adding, counting, getting, last_said, opening, said


class Counting(unittest.TestCase):
    def test_not_open(self):
        self.assertEqual(said(counting()), [[0, 0, 0, 0, 0, 0, 1]])

    def test_newly_open(self):
        self.assertEqual(last_said(opening(), counting()), [0, 0, 0, 0, 0, 0, 1])

    def test_kept_weight_and_next(self):
        told = last_said(opening(2048, 10), adding(0, 0, [1] * 4), adding(0, 0, [1] * 40), counting())
        self.assertEqual(told, [0, 2, 4 + 24 + 10 + 24, 2, 0, 0, 3])

    def test_gone(self):
        told = last_said(opening(2048), *[adding(0, 0, [1] * 1518)] * 5, counting())
        self.assertEqual(told, [0, 1, 1542, 5, 0, 4, 6])

    def test_counting_changes_nothing(self):
        told = said(opening(), adding(), counting(), counting())
        self.assertEqual(told[2], told[3])


class Getting(unittest.TestCase):
    def test_a_kept_one(self):
        told = last_said(opening(), adding(2 ** 63 - 1, 1, [0, 255, 3]), getting(1))
        self.assertEqual(told, [3, 2 ** 63 - 1, 1, 3, 0, 255, 3])

    def test_only_the_first_snap_bytes_are_kept(self):
        frame = [place % 256 for place in range(1518)]
        for snap in (1, 2, 1517, 1518):
            told = last_said(opening(4096, snap), adding(4, 0, frame), getting(1))
            self.assertEqual(told, [snap, 4, 0, 1518] + frame[:snap])

    def test_a_frame_shorter_than_snap(self):
        told = last_said(opening(4096, 5), adding(4, 0, [9, 8]), getting(1))
        self.assertEqual(told, [2, 4, 0, 2, 9, 8])

    def test_none(self):
        for number in (0, 2, -1, -2, -2147483648, 2147483647):
            self.assertEqual(last_said(opening(), adding(), getting(number)), [-2], number)

    def test_one_that_is_gone(self):
        told = said(opening(), adding(0, 0, [1] * 1518), adding(0, 0, [1] * 1518), getting(1))
        self.assertEqual(told[-1], [-2])

    def test_not_open(self):
        self.assertEqual(said(getting(1), getting(0)), [[-2], [-2]])


if __name__ == "__main__":
    unittest.main()
