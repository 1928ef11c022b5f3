"""Promise 1: open."""

import unittest

from tests.calls import adding, compiling, counting, getting, last_said, opening, said, telling_program


class Opening(unittest.TestCase):
    def test_both_ends_of_room(self):
        for room, answer in ((2047, -1), (2048, 0), (16777216, 0), (16777217, -1), (0, -1), (-2048, -1)):
            self.assertEqual(said(opening(room, 100)), [[answer]], room)

    def test_both_ends_of_snap(self):
        for snap, answer in ((-1, -1), (0, -1), (1, 0), (1518, 0), (1519, -1)):
            self.assertEqual(said(opening(4096, snap)), [[answer]], snap)

    def test_ends_of_int(self):
        for number in (-2147483648, 2147483647):
            self.assertEqual(said(opening(number, 100), opening(4096, number)), [[-1], [-1]])

    def test_opening_again_makes_a_new_one(self):
        told = said(opening(), adding(), compiling(4, "len=1"), opening(), counting(), getting(1),
                    telling_program(4), adding())
        self.assertEqual(told[3:], [[0], [0, 0, 0, 0, 0, 0, 1], [-2], [-2], [1]])

    def test_opening_again_sets_room_and_snap(self):
        frame = list(range(200))
        told = said(opening(2048, 3), opening(4096, 150), *[adding(5, 1, frame)] * 20, counting(), getting(20))
        self.assertEqual(told[-2], [0, 20, 20 * 174, 20, 0, 0, 21])
        self.assertEqual(told[-1], [150, 5, 1, 200] + frame[:150])

    def test_a_refusal_changes_nothing(self):
        before = [opening(2048, 2), adding(9, 1, (1, 2, 3)), compiling(4, "len=1")]
        asked = [counting(), getting(1), telling_program(4)]
        plain = said(*before, *asked)[-3:]
        for wrong in (opening(2047, 2), opening(2048, 0)):
            self.assertEqual(said(*before, wrong, *asked)[-3:], plain)

    def test_a_refused_opening_opens_nothing(self):
        self.assertEqual(last_said(opening(0, 0), adding()), [-1])


if __name__ == "__main__":
    unittest.main()
