"""Promise 9: gate."""

import unittest

from tests.calls import (ENDS_OF_INT, NO, YES, adding, changes_nothing, compiling, counting, gating, last_said, loading,
                         opening, said)


class Gating(unittest.TestCase):
    def test_only_what_the_gate_says_yes_to_is_kept(self):
        told = said(opening(), compiling(0, "[0] = 5"), gating(0), adding(0, 0, [5]), adding(0, 0, [6]),
                    adding(0, 0, [5, 6]), counting())
        self.assertEqual(told[2:], [[0], [1], [0], [2], [0, 2, 25 + 26, 3, 1, 0, 3]])

    def test_a_program_is_no_gate_by_itself(self):
        self.assertEqual(said(opening(), loading(0, NO), adding())[2], [1])

    def test_both_ends_of_the_slots(self):
        for slot in (0, 15):
            self.assertEqual(said(opening(), loading(slot, NO), gating(slot), adding())[2:], [[0], [0]], slot)

    def test_of_minus_1_none_is(self):
        told = said(opening(), loading(0, NO), gating(0), adding(), gating(-1), adding(), counting())
        self.assertEqual(told[3:], [[0], [0], [1], [0, 1, 25, 2, 1, 0, 2]])

    def test_minus_1_when_none_is(self):
        self.assertEqual(said(opening(), gating(-1), adding())[1:], [[0], [1]])

    def test_another_one(self):
        told = said(opening(), loading(1, NO), loading(2, YES), gating(1), gating(2), adding(), gating(1), adding())
        self.assertEqual(told[3:], [[0], [0], [1], [0], [0]])

    def test_the_same_again(self):
        told = said(opening(), loading(1, NO), gating(1), gating(1), adding())
        self.assertEqual(told[2:], [[0], [0], [0]])

    def test_what_was_kept_stays(self):
        told = said(opening(), adding(), loading(1, NO), gating(1), counting())
        self.assertEqual(told[-1], [0, 1, 25, 1, 0, 0, 2])

    def test_none_there(self):
        self.assertEqual([last_said(opening(), gating(slot)) for slot in (0, 1, 15)], [[-2]] * 3)

    def test_no_slot(self):
        for slot in (-2, 16) + ENDS_OF_INT:
            self.assertEqual(last_said(opening(), loading(0, NO), loading(15, NO), gating(slot)), [-1], slot)

    def test_not_open(self):
        for slot in (-2, -1, 0, 15, 16):
            self.assertEqual(said(gating(slot)), [[-1]], slot)

    def test_a_refusal_changes_nothing(self):
        for program in (NO, YES):
            before = [opening(), loading(2, program), gating(2), loading(3, YES), adding(5)]
            for slot, answer in ((-2, -1), (0, -2), (15, -2), (16, -1)):
                self.assertEqual(changes_nothing(before, gating(slot)), [answer])


if __name__ == "__main__":
    unittest.main()
