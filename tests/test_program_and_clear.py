"""Promises 6 and 8: program and clear."""

import unittest

from framekeep.capture import Capture
from tests.calls import TOP, clearing, compiling, last_said, loading, opening, said, telling_program

ENDS_OF_INT = (-2147483648, 2147483647)


class TellingPrograms(unittest.TestCase):
    def test_a_compiled_one(self):
        self.assertEqual(last_said(opening(), compiling(0, "len >= 60"), telling_program(0)),
                         [4, 1, 0, 0, 60, 4, 5, 8, 0])

    def test_a_loaded_one(self):
        self.assertEqual(last_said(opening(), loading(15, [(0, TOP), (8, 0)]), telling_program(15)),
                         [2, 0, TOP, 8, 0])

    def test_none(self):
        for slot in (0, 1, 15):
            self.assertEqual(last_said(opening(), telling_program(slot)), [-2], slot)

    def test_no_slot(self):
        for slot in (-1, 16) + ENDS_OF_INT:
            self.assertEqual(last_said(opening(), telling_program(slot)), [-1], slot)

    def test_not_open(self):
        self.assertEqual(said(telling_program(0), telling_program(16)), [[-2], [-1]])


class Clearing(unittest.TestCase):
    def test_there_is_none_any_more(self):
        for slot in (0, 15):
            told = said(opening(), compiling(slot, "1=1"), clearing(slot), telling_program(slot), clearing(slot))
            self.assertEqual(told[2:], [[0], [-2], [-2]])

    def test_others_stay(self):
        told = said(opening(), compiling(1, "1=1"), compiling(2, "1=2"), clearing(1), telling_program(2))
        self.assertEqual(told[3:], [[0], [2, 0, 0, 8, 0]])

    def test_none(self):
        self.assertEqual(last_said(opening(), clearing(3)), [-2])

    def test_no_slot(self):
        for slot in (-1, 16) + ENDS_OF_INT:
            self.assertEqual(said(opening(), compiling(15, "1=1"), clearing(slot), telling_program(15))[2:],
                             [[-1], [2, 0, 1, 8, 0]], slot)

    def test_not_open(self):
        self.assertEqual(said(clearing(0), clearing(-1)), [[-2], [-1]])

    def test_the_gate_is_not_cleared(self):
        capture = Capture()
        capture.begin(2048, 1)
        capture.load_program(3, [0, 1, 8, 0])
        capture.load_program(4, [0, 1, 8, 0])
        capture.gate = 3
        self.assertEqual(capture.clear_slot(3), [-4])
        self.assertEqual(capture.tell_program(3), [2, 0, 1, 8, 0])
        self.assertEqual(capture.clear_slot(4), [0])
        self.assertEqual(capture.clear_slot(4), [-2])
        capture.gate = -1
        self.assertEqual(capture.clear_slot(3), [0])


if __name__ == "__main__":
    unittest.main()
