"""What programs say, as the gate of promise 2 asks them."""

import random
import unittest

from framekeep.checking import wrong_place
from framekeep.machine import says_yes
from tests.calls import TOP

END = (8, 0)
FRAME = [1, 2, 3, 255, 5, 6, 7, 8, 9]


class Machine(unittest.TestCase):
    def leaves(self, instructions, value):
        """The program leaves this value, so that a comparison with it says yes."""
        same = list(instructions) + [(0, value), (4, 0), END]
        other = list(instructions) + [(0, value), (4, 1), END]
        self.assertTrue(says_yes(same, FRAME), instructions)
        self.assertFalse(says_yes(other, FRAME), instructions)

    def test_the_end(self):
        self.assertFalse(says_yes([(0, 0), END], FRAME))
        self.assertTrue(says_yes([(0, 1), END], FRAME))
        self.assertTrue(says_yes([(0, TOP), END], FRAME))
        self.assertFalse(says_yes([(0, 1), (0, 0), END], FRAME))

    def test_length_and_bytes(self):
        self.leaves([(1, 0)], 9)
        self.leaves([(0, 0), (2, 1)], 1)
        self.leaves([(0, 2), (2, 2)], 0x03FF)
        self.leaves([(0, 1), (2, 8)], 0x0203FF0506070809)

    def test_bytes_that_are_not_there(self):
        for place, size in ((9, 1), (8, 2), (2, 8), (TOP, 1), (TOP, 8), (TOP - 7, 8)):
            self.assertFalse(says_yes([(0, place), (2, size), (0, 0), (3, 4), (5, 0), END], FRAME))
        for place, size in ((8, 1), (7, 2), (1, 8)):
            self.assertTrue(says_yes([(0, place), (2, size), (0, 0), (3, 4), (5, 0), END], FRAME))

    def test_operations(self):
        for x, y, outcomes in ((7, 2, (9, 5, 7, 14, 2, 28, 1)),
                               (2, 7, (9, TOP - 4, 7, 14, 2, 256, 0)),
                               (TOP, 63, (62, TOP - 63, TOP, TOP - 62, 63, 2 ** 63, 1)),
                               (TOP, 64, (63, TOP - 64, TOP, TOP - 63, 64, 0, 0)),
                               (1, TOP, (0, 2, TOP, TOP, 1, 0, 0))):
            for number, outcome in enumerate(outcomes):
                self.leaves([(0, x), (0, y), (3, number)], outcome)

    def test_comparisons(self):
        for x, y, outcomes in ((1, 2, (0, 1, 1, 1, 0, 0)), (2, 2, (1, 0, 0, 1, 0, 1)),
                               (TOP, 0, (0, 1, 0, 0, 1, 1))):
            for number, outcome in enumerate(outcomes):
                self.leaves([(0, x), (0, y), (4, number)], outcome)

    def test_not(self):
        self.leaves([(0, 0), (5, 0)], 1)
        self.leaves([(0, 1), (5, 0)], 0)
        self.leaves([(0, TOP), (5, 0)], 0)

    def test_leaving_out(self):
        self.leaves([(0, 0), (6, 2), (0, 5), (5, 0)], 0)
        self.leaves([(0, 3), (6, 2), (0, 5), (5, 0)], 0)
        self.leaves([(0, 3), (6, 1), (0, 5)], 5)
        self.leaves([(0, 3), (7, 1), (0, 5)], 3)
        self.leaves([(0, 0), (7, 1), (0, 5)], 5)

    def test_only_the_last_value_is_asked(self):
        self.leaves([(0, 0), (0, 3), (7, 1), (0, 5)], 3)
        self.leaves([(0, 3), (0, 0), (7, 1), (0, 5)], 5)
        self.leaves([(0, 3), (0, 0), (6, 1), (0, 5)], 0)
        self.leaves([(0, 0), (0, 3), (6, 1), (0, 5)], 5)

    def test_programs_that_pass_the_check_never_go_wrong(self):
        chance = random.Random(3)
        passed = 0
        for turn in range(30000):
            program = [(0, chance.randrange(12)), (1, 0)]
            for place in range(chance.randrange(12)):
                code = chance.choice((0, 0, 1, 2, 3, 4, 5, 6, 7, 8))
                program.append((code, 0 if code in (1, 5, 8) else chance.randrange(1, 5)))
            program.append(END)
            if wrong_place(program) < 0:
                passed += 1
                self.assertIn(says_yes(program, FRAME), (True, False))
        self.assertGreater(passed, 3000)

    def test_an_end_on_the_way(self):
        program = [(0, 4), (1, 0), (0, 9), (4, 0), (6, 1), END, END]
        self.assertTrue(says_yes(program, FRAME))
        self.assertFalse(says_yes(program, FRAME[:8]))


if __name__ == "__main__":
    unittest.main()
