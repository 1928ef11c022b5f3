"""Promises 6 and 8: program and clear."""

import unittest

from tests.calls import (ENDS_OF_INT, NO, TOP, YES, adding, clearing, compiling, gating, last_said, loading, opening,
                         said, telling_program)


class TellingPrograms(unittest.TestCase):
    def test_a_compiled_one(self):
        self.assertEqual(last_said(opening(), compiling(0, "len >= 60"), telling_program(0)),
                         [4, 1, 0, 0, 60, 4, 5, 8, 0])

    def test_a_loaded_one(self):
        self.assertEqual(last_said(opening(), loading(15, [(0, TOP), (8, 0)]), telling_program(15)),
                         [2, 0, TOP, 8, 0])

    def test_none(self):
        for slot in (0, 1, 15):
            self.assertEqual(last_said(opening(), telling_program(slot)), [-2], slot)

    def test_no_slot(self):
        for slot in (-1, 16) + ENDS_OF_INT:
            self.assertEqual(last_said(opening(), telling_program(slot)), [-1], slot)

    def test_not_open(self):
        self.assertEqual(said(telling_program(0), telling_program(16)), [[-2], [-1]])


class Clearing(unittest.TestCase):
    def test_there_is_none_any_more(self):
        for slot in (0, 15):
            told = said(opening(), compiling(slot, "1=1"), clearing(slot), telling_program(slot), clearing(slot))
            self.assertEqual(told[2:], [[0], [-2], [-2]])

    def test_others_stay(self):
        told = said(opening(), compiling(1, "1=1"), compiling(2, "1=2"), clearing(1), telling_program(2))
        self.assertEqual(told[3:], [[0], [2, 0, 0, 8, 0]])

    def test_none(self):
        self.assertEqual(last_said(opening(), clearing(3)), [-2])

    def test_no_slot(self):
        for slot in (-1, 16) + ENDS_OF_INT:
            self.assertEqual(said(opening(), compiling(15, "1=1"), clearing(slot), telling_program(15))[2:],
                             [[-1], [2, 0, 1, 8, 0]], slot)

    def test_not_open(self):
        self.assertEqual(said(clearing(0), clearing(-1)), [[-2], [-1]])

    def test_the_gate_is_not_cleared(self):
        told = said(opening(), loading(3, NO), gating(3), clearing(3), telling_program(3), adding())
        self.assertEqual(told[3:], [[-4], [2, 0, 0, 8, 0], [0]])

    def test_another_than_the_gate_is_cleared(self):
        told = said(opening(), loading(3, YES), loading(4, YES), gating(3), clearing(4), clearing(4), clearing(5))
        self.assertEqual(told[4:], [[0], [-2], [-2]])

    def test_what_was_the_gate_is_cleared(self):
        for other in (gating(-1), gating(4)):
            told = said(opening(), loading(3, YES), loading(4, YES), gating(3), other, clearing(3), telling_program(3))
            self.assertEqual(told[4:], [[0], [0], [-2]])

    def test_the_gate_of_slot_0(self):
        told = said(opening(), loading(0, YES), gating(0), clearing(0), gating(-1), clearing(0))
        self.assertEqual(told[2:], [[0], [-4], [0], [0]])


if __name__ == "__main__":
    unittest.main()
