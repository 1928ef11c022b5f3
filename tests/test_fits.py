"""Promise 10: fits."""

import unittest

from tests.calls import (ENDS_OF_INT, NO, TOP, YES, adding, changes_nothing, compiling, fitting, gating, last_said,
                         loading, opening, said)


class Fitting(unittest.TestCase):
    def test_yes_and_no(self):
        told = said(opening(), compiling(4, "[1] = 7"), fitting(4, [0, 7]), fitting(4, [7, 0]), fitting(4, [7]))
        self.assertEqual(told[2:], [[1], [0], [0]])

    def test_any_value_but_0_is_yes(self):
        for value, answer in ((0, 0), (1, 1), (2, 1), (256, 1), (TOP, 1)):
            self.assertEqual(last_said(opening(), loading(0, [(0, value), (8, 0)]), fitting(0, [1])), [answer])

    def test_both_ends_of_the_slots(self):
        for slot in (0, 15):
            self.assertEqual(last_said(opening(), loading(slot, YES), fitting(slot, [1])), [1])

    def test_the_whole_frame_is_looked_at(self):
        told = said(opening(2048, 1), compiling(0, "len = 1518 and [1517] = 9"), fitting(0, [0] * 1517 + [9]),
                    fitting(0, [0] * 1518))
        self.assertEqual(told[2:], [[1], [0]])

    def test_lengths(self):
        for length, answer in ((0, -1), (1, 1), (1518, 1), (1519, -1), (1600, -1)):
            self.assertEqual(last_said(opening(), loading(0, YES), fitting(0, [1] * length)), [answer], length)

    def test_a_wrong_frame_comes_ahead_of_none_there(self):
        for length, answer in ((0, -1), (1, -2), (1518, -2), (1519, -1)):
            self.assertEqual(last_said(opening(), fitting(0, [1] * length)), [answer], length)

    def test_no_slot(self):
        for slot in (-2, -1, 16) + ENDS_OF_INT:
            self.assertEqual(last_said(opening(), loading(0, YES), loading(15, YES), fitting(slot, [1])), [-1], slot)

    def test_not_open(self):
        self.assertEqual(said(fitting(0, [1]), fitting(15, [1]), fitting(16, [1]), fitting(-1, [1]), fitting(0, [])),
                         [[-2], [-2], [-1], [-1], [-1]])

    def test_the_gate_has_no_say(self):
        self.assertEqual(last_said(opening(), loading(0, YES), loading(1, NO), gating(1), fitting(0, [1])), [1])

    def test_it_changes_nothing(self):
        before = [opening(), loading(0, YES), loading(1, NO), adding(5)]
        for call, answer in ((fitting(0, [1]), 1), (fitting(1, [1]), 0), (fitting(2, [1]), -2), (fitting(-1, [1]), -1),
                             (fitting(16, [1]), -1), (fitting(0, []), -1), (fitting(0, [1] * 1519), -1)):
            self.assertEqual(changes_nothing(before, call), [answer])


if __name__ == "__main__":
    unittest.main()
