"""Promises 11 and 12: find and total."""

import unittest

from tests.calls import (ENDS_OF_INT, NO, YES, adding, changes_nothing, compiling, file_bytes, finding, frame_bytes,
                         gating, last_said, loading, opening, restoring, said, totalling)

# Of these 2, 3 and 5 begin with a 7.
FIVE = [opening(4096, 2), adding(50, 0, [1, 2, 3]), adding(90, 1, [7]), adding(70, 1, [7, 1, 1, 1]),
        adding(95, 1, [6, 6]), adding(80, 0, [7, 3]), compiling(3, "[0] = 7")]


class Finding(unittest.TestCase):
    def test_the_numbers_in_order(self):
        self.assertEqual(last_said(*FIVE, finding(3)), [3, 2, 3, 5])

    def test_from_that_number_on(self):
        for start, found in ((-5, [2, 3, 5]), (0, [2, 3, 5]), (1, [2, 3, 5]), (2, [2, 3, 5]), (3, [3, 5]), (4, [5]),
                             (5, [5]), (6, []), (7, []), (ENDS_OF_INT[0], [2, 3, 5]), (ENDS_OF_INT[1], [])):
            self.assertEqual(last_said(*FIVE, finding(3, start)), [len(found)] + found, start)

    def test_the_first_most_of_them(self):
        for most, told in ((0, []), (1, [2]), (2, [2, 3]), (3, [2, 3, 5]), (4, [2, 3, 5]), (65536, [2, 3, 5])):
            self.assertEqual(last_said(*FIVE, finding(3, 1, most)), [3] + told, most)

    def test_from_and_most_together(self):
        self.assertEqual(last_said(*FIVE, finding(3, 3, 1)), [2, 3])

    def test_most_that_may_not_be(self):
        for most in (-1, 65537) + ENDS_OF_INT:
            self.assertEqual(last_said(*FIVE, finding(3, 1, most)), [-1], most)

    def test_a_wrong_most_comes_ahead_of_none_there(self):
        for most, answer in ((-1, -1), (0, -2), (65536, -2), (65537, -1)):
            self.assertEqual(last_said(opening(), finding(0, 1, most)), [answer], most)
            self.assertEqual(said(finding(0, 1, most)), [[answer]], most)

    def test_what_is_kept_is_looked_at(self):
        told = said(opening(2048, 2), adding(0, 0, [1, 2, 3]), compiling(0, "len = 2"), compiling(1, "len = 3"),
                    compiling(2, "[2] = 3"), compiling(3, "[1] = 2"), *[finding(slot) for slot in range(4)])
        self.assertEqual(told[-4:], [[1, 1], [0], [0], [1, 1]])

    def test_none_fits(self):
        self.assertEqual(last_said(*FIVE, loading(4, NO), finding(4)), [0])

    def test_none_kept(self):
        self.assertEqual(last_said(opening(), loading(4, YES), finding(4)), [0])

    def test_those_that_are_gone_are_not_found(self):
        told = last_said(opening(), *[adding(0, 0, [1] * 1000)] * 4, loading(0, YES), finding(0))
        self.assertEqual(told, [2, 3, 4])

    def test_great_numbers_of_a_file(self):
        file = file_bytes(frame_bytes(3), frame_bytes(2 ** 31 - 1), frame_bytes(2 ** 31), frame_bytes(2 ** 63 - 1))
        before = [opening(), restoring(file), loading(0, YES)]
        self.assertEqual(last_said(*before, finding(0, 2 ** 31 - 1)), [3, 2 ** 31 - 1, 2 ** 31, 2 ** 63 - 1])

    def test_many(self):
        file = file_bytes(*[frame_bytes(number, kept=[]) for number in range(1, 701)])
        told = said(opening(16777216), restoring(file), loading(0, YES), finding(0), finding(0, 1, 699))
        self.assertEqual(told[-2], [700] + list(range(1, 701)))
        self.assertEqual(told[-1], [700] + list(range(1, 700)))


class Totalling(unittest.TestCase):
    def test_those_that_fit(self):
        # How many, how long they were, how much is kept, how many went way 1, the latest time.
        self.assertEqual(last_said(*FIVE, totalling(3)), [3, 1 + 4 + 2, 1 + 2 + 2, 2, 90])

    def test_all(self):
        self.assertEqual(last_said(*FIVE, loading(0, YES), totalling(0)), [5, 3 + 1 + 4 + 2 + 2, 9, 3, 95])

    def test_none_fits(self):
        self.assertEqual(last_said(*FIVE, loading(0, NO), totalling(0)), [0, 0, 0, 0, 0])

    def test_none_kept(self):
        self.assertEqual(last_said(opening(), loading(0, YES), totalling(0)), [0, 0, 0, 0, 0])

    def test_the_latest_time_at_any_place(self):
        for times in ((9, 5, 1), (5, 9, 1), (1, 5, 9), (9, 9, 9), (0, 0, 0), (2 ** 63 - 1, 2 ** 63 - 2, 0)):
            told = last_said(opening(), *[adding(time) for time in times], loading(0, YES), totalling(0))
            self.assertEqual(told, [3, 3, 3, 0, max(times)], times)

    def test_what_is_kept_is_looked_at(self):
        told = said(opening(2048, 2), adding(4, 1, [1, 2, 3]), compiling(0, "len = 2"), compiling(1, "[2] = 3"),
                    totalling(0), totalling(1))
        self.assertEqual(told[-2:], [[1, 3, 2, 1, 4], [0, 0, 0, 0, 0]])

    def test_those_that_are_gone_do_not_count(self):
        told = last_said(opening(), adding(9, 1, [1] * 1000), adding(5, 0, [1] * 1000), adding(4, 0, [1]),
                         loading(0, YES), totalling(0))
        self.assertEqual(told, [2, 1001, 1001, 0, 5])


class BothOfThem(unittest.TestCase):
    def test_both_ends_of_the_slots(self):
        for slot in (0, 15):
            told = said(opening(), adding(8), loading(slot, YES), finding(slot), totalling(slot))
            self.assertEqual(told[3:], [[1, 1], [1, 1, 1, 0, 8]])

    def test_none_there(self):
        for slot in (0, 1, 15):
            self.assertEqual(said(opening(), adding(), finding(slot), totalling(slot))[2:], [[-2], [-2]], slot)

    def test_no_slot(self):
        for slot in (-2, -1, 16) + ENDS_OF_INT:
            told = said(opening(), loading(0, YES), loading(15, YES), finding(slot), totalling(slot))
            self.assertEqual(told[3:], [[-1], [-1]], slot)

    def test_not_open(self):
        self.assertEqual(said(finding(0), totalling(0), finding(15), totalling(15)), [[-2]] * 4)
        self.assertEqual(said(finding(16), totalling(16), finding(-1), totalling(-1)), [[-1]] * 4)

    def test_the_gate_has_no_say(self):
        told = said(opening(), adding(3), loading(0, YES), loading(1, NO), gating(1), finding(0), totalling(0))
        self.assertEqual(told[-2:], [[1, 1], [1, 1, 1, 0, 3]])

    def test_they_change_nothing(self):
        for call, first in ((finding(3), 3), (finding(3, 9, 0), 0), (finding(0), -2), (finding(-1), -1),
                            (finding(16), -1), (finding(3, 1, -1), -1), (finding(3, 1, 65537), -1),
                            (totalling(3), 3), (totalling(0), -2), (totalling(-1), -1), (totalling(16), -1)):
            self.assertEqual(changes_nothing(FIVE, call)[0], first)


if __name__ == "__main__":
    unittest.main()
